package tests

import (
	"cmp"
	"hash/crc32"
	"slices"
	"strings"
	"testing"
	"time"

	"loop.example/corbel/impl"
)

func TestP25ANameIsNoWayOut(t *testing.T) {
	for _, name := range badNames() {
		if impl.NameOk(name) {
			t.Errorf("%q is a name", name)
		}
	}
	r := seeded(25)
	names := []string{"a", "0", "-", "_", "...", ".a", "a.", "..a", "a..", "a/b", "a/b/c/d", "tenletters", "a.b-c_d/0"}
	for range 300 {
		names = append(names, randomName(r))
	}
	for _, name := range names {
		if !impl.NameOk(name) {
			t.Fatalf("%q is no name", name)
		}
		for _, out := range []string{"/", "./", "../", "//", "/../"} {
			if impl.NameOk(out + name) {
				t.Fatalf("%q is a name", out+name)
			}
		}
		for _, out := range []string{"/", "/.", "/..", "//", "/../"} {
			if impl.NameOk(name + out) {
				t.Fatalf("%q is a name", name+out)
			}
		}
	}
}

// All texts of few signs, and all bytes.
func TestP25AllShortNames(t *testing.T) {
	list := []string{""}
	for range 7 {
		var more []string
		for _, s := range list {
			for _, b := range []string{"a", ".", "/", "A", "_"} {
				more = append(more, s+b)
			}
		}
		for _, s := range more {
			if impl.NameOk(s) != nameSlowly(s) {
				t.Fatalf("%q: %v", s, impl.NameOk(s))
			}
		}
		list = more
	}
	for b := range 256 {
		for _, s := range []string{string([]byte{byte(b)}), "x" + string([]byte{byte(b)}), string([]byte{byte(b)}) + "/x", "x/y" + string([]byte{byte(b)}) + "z"} {
			if impl.NameOk(s) != nameSlowly(s) {
				t.Errorf("%q: %v", s, impl.NameOk(s))
			}
		}
	}
}

func TestP69ANameInADir(t *testing.T) {
	for long := range impl.NameMax + 4 {
		for many := range impl.PartMax + 4 {
			name := strings.Join(repeated(strings.Repeat("x", long), many), "/")
			if want := long >= 1 && long <= impl.NameMax && many >= 1 && many <= impl.PartMax; impl.NameOk(name) != want {
				t.Errorf("%q: %v", name, !want)
			}
		}
	}
	r := seeded(69)
	for range 300 {
		name := randomName(r)
		parts := strings.Split(name, "/")
		for i, part := range parts {
			if !impl.NameOk(part) || !impl.NameOk(strings.Join(parts[:i+1], "/")) {
				t.Fatalf("%q of %q is no name", part, name)
			}
		}
		if more := name + "/x"; impl.NameOk(more) != (len(parts) < impl.PartMax) {
			t.Fatalf("%q: %v", more, impl.NameOk(more))
		}
	}
	if impl.NameOk(strings.Repeat("a/", 100000)) || impl.NameOk(strings.Repeat("a", 100000)) {
		t.Error("a very long name")
	}
}

// stampEnds are numbers at the ends of what a number of 32 bits may be, and around them.
func stampEnds() []int {
	list := slices.Clone(oddNumbers)
	for _, n := range []int{0, 1<<32 - 1, 1 << 32, 1<<33 + stampNumber(noon), stampNumber(noon) - 1<<32, 1<<31 - 1, 1 << 31} {
		list = append(list, n-1, n, n+1)
	}
	return list
}

// checkStamp holds StampGet against what the document says.
func checkStamp(t *testing.T, n int) {
	t.Helper()
	s, ok := impl.StampGet(n)
	want := impl.Stamp{}
	may := n >= 0 && n < 1<<32 && stampSlowly(stampOfNumber(n))
	if may {
		want = stampOfNumber(n)
	}
	if s != want || ok != may {
		t.Fatalf("%d: %v %v, not %v %v", n, s, ok, want, may)
	}
	if ok && impl.StampPut(s) != n {
		t.Fatalf("%d is read as %v, which is written %d", n, s, impl.StampPut(s))
	}
}

func TestP26AStampIsReadBack(t *testing.T) {
	r := seeded(26)
	for range 5000 {
		s := randomStamp(r)
		n := impl.StampPut(s)
		if n != stampNumber(s) {
			t.Fatalf("%v: %d", s, n)
		}
		if got, ok := impl.StampGet(n); got != s || !ok {
			t.Fatalf("%v: %d: %v %v", s, n, got, ok)
		}
	}
	// All days with some times, and all times with some days.
	for half := range 65536 {
		for _, other := range []int{0, 0xbf7d, 0xbf7e, 0xc000, 0x21, 0x2821, 0xff9f} {
			checkStamp(t, half*65536+other)
			checkStamp(t, other*65536+half)
		}
	}
	for range 20000 {
		checkStamp(t, r.Intn(1<<32))
	}
	for _, n := range stampEnds() {
		checkStamp(t, n)
	}
}

func TestP26StampsThatAreNone(t *testing.T) {
	for _, s := range badStamps() {
		if impl.StampOk(s) || impl.StampPut(s) != -1 {
			t.Errorf("%v: %v %d", s, impl.StampOk(s), impl.StampPut(s))
		}
	}
	for _, odd := range oddNumbers {
		for _, s := range []impl.Stamp{
			{Year: odd, Month: 1, Day: 1},
			{Year: 2000, Month: odd, Day: 1},
			{Year: 2000, Month: 1, Day: odd},
			{Year: 2000, Month: 1, Day: 1, Hour: odd},
			{Year: 2000, Month: 1, Day: 1, Minute: odd},
			{Year: 2000, Month: 1, Day: 1, Second: odd},
		} {
			if impl.StampOk(s) || impl.StampPut(s) != -1 {
				t.Errorf("%v: %v %d", s, impl.StampOk(s), impl.StampPut(s))
			}
		}
	}
}

// laterOf orders stamps, the greatest unit first.
func laterOf(a impl.Stamp, b impl.Stamp) int {
	return cmp.Or(a.Year-b.Year, a.Month-b.Month, a.Day-b.Day, a.Hour-b.Hour, a.Minute-b.Minute, a.Second-b.Second)
}

func TestP27WhatWasLaterIsGreater(t *testing.T) {
	r := seeded(27)
	for range 5000 {
		a, b := randomStamp(r), randomStamp(r)
		if r.Intn(2) == 0 {
			b = a
			for _, part := range []*int{&b.Year, &b.Month, &b.Day, &b.Hour, &b.Minute, &b.Second} {
				if r.Intn(3) == 0 {
					*part += 2 * (r.Intn(3) - 1)
				}
			}
		}
		if !stampSlowly(b) {
			continue
		}
		if x, y := impl.StampPut(a), impl.StampPut(b); cmp.Compare(x, y) != cmp.Compare(laterOf(a, b), 0) {
			t.Fatalf("%v is %d, %v is %d", a, x, b, y)
		}
	}
}

func TestP68AMonthHasAsManyDays(t *testing.T) {
	for year := 1978; year <= 2110; year++ {
		for month := -1; month <= 14; month++ {
			days := 0
			for day := -1; day <= 33; day++ {
				s := impl.Stamp{Year: year, Month: month, Day: day, Hour: 23, Minute: 59, Second: 58}
				if impl.StampOk(s) != stampSlowly(s) {
					t.Fatalf("%v: %v", s, impl.StampOk(s))
				}
				if impl.StampOk(s) {
					days++
				}
			}
			may := year >= 1980 && year <= 2107 && month >= 1 && month <= 12
			if last := time.Date(year, time.Month(month+1), 0, 0, 0, 0, 0, time.UTC).Day(); may && days != last || !may && days != 0 {
				t.Fatalf("%d-%d has %d days", year, month, days)
			}
		}
	}
}

func TestP68February(t *testing.T) {
	for year, days := range map[int]int{1980: 29, 1981: 28, 1900: 0, 1999: 28, 2000: 29, 2001: 28, 2024: 29, 2096: 29, 2100: 28, 2104: 29, 2107: 28, 2108: 0} {
		for day := 1; day <= 31; day++ {
			s := impl.Stamp{Year: year, Month: 2, Day: day}
			if impl.StampOk(s) != (day <= days) {
				t.Errorf("%v: %v", s, impl.StampOk(s))
			}
		}
	}
}

func TestP68AllTimesOfADay(t *testing.T) {
	times := 0
	for hour := -1; hour <= 25; hour++ {
		for minute := -1; minute <= 61; minute++ {
			for second := -2; second <= 61; second++ {
				if impl.StampOk(impl.Stamp{Year: 2000, Month: 1, Day: 1, Hour: hour, Minute: minute, Second: second}) {
					times++
					if hour < 0 || hour > 23 || minute < 0 || minute > 59 || second < 0 || second > 58 || second%2 != 0 {
						t.Fatalf("%d:%d:%d", hour, minute, second)
					}
				}
			}
		}
	}
	if times != 24*60*30 {
		t.Errorf("a day has %d times", times)
	}
}

func TestP87TheLastDayAndTime(t *testing.T) {
	last := impl.Stamp{Year: 2107, Month: 12, Day: 31, Hour: 23, Minute: 59, Second: 58}
	if n := impl.StampPut(last); n != 0xff9fbf7d {
		t.Errorf("the last is %d", n)
	}
	if n := impl.StampPut(impl.Stamp{Year: 1980, Month: 1, Day: 1}); n != 0x210000 {
		t.Errorf("the first is %d", n)
	}
	for _, next := range []impl.Stamp{{Year: 2108, Month: 1, Day: 1}, {Year: 2107, Month: 12, Day: 31, Hour: 23, Minute: 59, Second: 60}, {Year: 2107, Month: 12, Day: 31, Hour: 24}, {Year: 2107, Month: 12, Day: 32}, {Year: 2107, Month: 13, Day: 1}} {
		if n := impl.StampPut(next); n != -1 {
			t.Errorf("%v: %d", next, n)
		}
	}
	r := seeded(87)
	for range 3000 {
		s := randomStamp(r)
		later := s
		later.Year++
		want := impl.StampPut(s) + 33554432
		if !stampSlowly(later) {
			want = -1
		}
		if n := impl.StampPut(later); n != want {
			t.Fatalf("%v: %d, not %d", later, n, want)
		}
	}
}

func TestP88AFileWithLessInIt(t *testing.T) {
	r := seeded(88)
	for range 200 {
		e := randomFile(r)
		for _, long := range []int{0, 1, impl.TextMax - 1, impl.TextMax, impl.TextMax + 1, impl.TextMax + 2, 70000} {
			e.Text = strings.Repeat("q", long)
			if ok := impl.EntryOk(e); ok != (long <= impl.TextMax) {
				t.Fatalf("%d bytes: %v", long, ok)
			}
		}
	}
	for _, e := range badFiles() {
		if impl.EntryOk(e) {
			t.Errorf("%v is ok", e)
		}
		if s := impl.LocalPut(e); s != "" {
			t.Errorf("%v is written %q", e, s)
		}
	}
}

func TestP28AFileIsReadBack(t *testing.T) {
	r := seeded(28)
	for _, text := range someTexts() {
		e := impl.Entry{Name: randomName(r), At: randomStamp(r), Text: text}
		s := impl.LocalPut(e)
		if want := headSlowly(e).text(); s != want {
			t.Fatalf("%v: %q, not %q", e, s, want)
		}
		for _, behind := range []string{"", "\x00", "PK", s, impl.ZipPut(nil), randomText(r, 1000)} {
			if got, took, ok := impl.LocalGet(s + behind); got != e || took != len(s) || !ok {
				t.Fatalf("%q with %q behind: %v %d %v", s, behind, got, took, ok)
			}
		}
		for _, long := range []int{0, 1, 4, 29, 30, 30 + len(e.Name) - 1, len(s) - 1} {
			if got, took, ok := impl.LocalGet(s[:long]); got != (impl.Entry{}) || took != 0 || ok {
				t.Fatalf("the first %d bytes of %q: %v %d %v", long, s, got, took, ok)
			}
		}
	}
}

func TestP28EveryBeginningOfAFileIsNone(t *testing.T) {
	for _, e := range []impl.Entry{fileOf("a", ""), fileOf("a", "hi"), fileOf("dir/b", strings.Repeat("stone ", 40)), fileOf("tenletters/tenletters/tenletters/tenletters", strings.Repeat("q", impl.TextMax))} {
		s := impl.LocalPut(e)
		for long := range len(s) {
			if got, took, ok := impl.LocalGet(s[:long]); got != (impl.Entry{}) || took != 0 || ok {
				t.Fatalf("the first %d bytes of %q: %v %d %v", long, s, got, took, ok)
			}
		}
		for from := 1; from < len(s); from++ {
			if _, _, ok := impl.LocalGet(s[from:] + s); ok {
				t.Fatalf("%q without its first %d bytes is a file", s, from)
			}
		}
	}
}

// A text is packed if that is shorter, and only then.
func TestFilesArePackedIfThatIsShorter(t *testing.T) {
	seen := map[int]int{}
	for _, text := range append(someTexts(), "aaaaa", "aaaaaa", "abababab") {
		s := impl.LocalPut(fileOf("a", text))
		how, body := 0, text
		if packed := impl.FlatePut(text); len(packed) < len(text) {
			how, body = 8, packed
		}
		if s[8:10] != le2(how) || s[18:22] != le4(len(body)) || s[31:] != body {
			t.Fatalf("%q: %q", text, s)
		}
		if len(impl.FlatePut(text)) == len(text) {
			seen[1]++
		}
		seen[how]++
	}
	if seen[0] == 0 || seen[8] == 0 || seen[1] == 0 {
		t.Errorf("%v", seen)
	}
}

func TestP70AFileTakesNoMore(t *testing.T) {
	r := seeded(70)
	for _, text := range someTexts() {
		e := impl.Entry{Name: randomName(r), At: randomStamp(r), Text: text}
		s := impl.LocalPut(e)
		if len(s) > 30+len(e.Name)+len(text) || len(s) < 30+len(e.Name) {
			t.Fatalf("%v takes %d bytes", e, len(s))
		}
		if s[:8] != "PK\x03\x04\x14\x00\x00\x00" || s[10:14] != le4(stampNumber(e.At)) || s[14:18] != le4(int(crc32.ChecksumIEEE([]byte(text)))) || s[22:26] != le4(len(text)) || s[26:30] != le2(len(e.Name))+"\x00\x00" || s[30:30+len(e.Name)] != e.Name {
			t.Fatalf("%v: %q", e, s)
		}
		if s[18:22] != le4(len(s)-30-len(e.Name)) {
			t.Fatalf("%v is packed in %d bytes, and tells %q", e, len(s)-30-len(e.Name), s[18:22])
		}
	}
}

func TestP89FilesOneBehindTheOther(t *testing.T) {
	r := seeded(89)
	for range 150 {
		a, b := randomFile(r), randomFile(r)
		s := impl.LocalPut(a) + impl.LocalPut(b)
		one, took, ok := impl.LocalGet(s)
		if one != a || !ok {
			t.Fatalf("%v: %v %v", a, one, ok)
		}
		if two, rest, ok := impl.LocalGet(s[took:]); two != b || took+rest != len(s) || !ok {
			t.Fatalf("%v: %v %v", b, two, ok)
		}
	}
}

func TestP90OneByteOfATextIsAnother(t *testing.T) {
	r := seeded(90)
	for _, text := range someTexts() {
		e := fileOf("a", text)
		bent := []byte(text)
		if len(bent) == 0 {
			continue
		}
		bent[r.Intn(len(bent))] ^= byte(1 + r.Intn(255))
		// A head that tells one text, and another one behind it, in either way.
		for _, h := range []freeHead{freeOf(e, 0, string(bent)), freeOf(e, 8, impl.FlatePut(string(bent))), freeOf(e, 8, impl.StorePut(string(bent)))} {
			if why := checkLocal(t, h.text()); why != "sum" {
				t.Fatalf("%q as %q: %q", text, bent, why)
			}
		}
	}
	// All bytes of a text that is not packed, in all ways.
	s := impl.LocalPut(fileOf("a", "some text"))
	for i := 31; i < len(s); i++ {
		for x := 1; x < 256; x++ {
			b := []byte(s)
			b[i] ^= byte(x)
			if _, _, ok := impl.LocalGet(string(b)); ok {
				t.Fatalf("%q is a file", b)
			}
		}
	}
}

// A byte of a packed text that is another one may still lead back to the same bytes, but never to others.
func TestP90OneByteOfAPackedTextIsAnother(t *testing.T) {
	r := seeded(900)
	refused := 0
	for range 150 {
		e := fileOf("a", woundText(r, 200))
		h := headSlowly(e)
		for range 20 {
			bent := []byte(h.body)
			bent[r.Intn(len(bent))] ^= byte(1 + r.Intn(255))
			other := h
			other.body = string(bent)
			why := checkLocal(t, other.text())
			if got, _, ok := impl.LocalGet(other.text()); ok && got != e {
				t.Fatalf("%q is read as %v, not %v", bent, got, e)
			}
			if why != "" {
				refused++
			}
		}
	}
	if refused < 2500 {
		t.Errorf("but %d were refused", refused)
	}
}

func TestP29WhatIsReadIsOk(t *testing.T) {
	r := seeded(29)
	for range 400 {
		e := randomFile(r)
		s := oddHead(r, e).text()
		got, took, ok := impl.LocalGet(s + "behind")
		if got != e || took != len(s) || !ok {
			t.Fatalf("%q: %v %d %v", s, got, took, ok)
		}
		if !impl.EntryOk(got) {
			t.Fatalf("%v is not ok", got)
		}
		again := impl.LocalPut(got)
		if more, took, ok := impl.LocalGet(again); more != got || took != len(again) || !ok {
			t.Fatalf("%v is written %q, which is %v", got, again, more)
		}
	}
}

// Heads that tell otherwise than they may, or than what is behind them.
func TestHeadsThatTellOtherwise(t *testing.T) {
	e := fileOf("dir/b", strings.Repeat("stone ", 20))
	packed := impl.FlatePut(e.Text)
	for i, c := range []struct {
		why    string
		how    int
		body   string
		change func(*freeHead)
	}{
		{"", 0, e.Text, func(h *freeHead) {}},
		{"", 8, packed, func(h *freeHead) {}},
		{"", 8, impl.StorePut(e.Text), func(h *freeHead) {}},
		{"", 8, impl.OwnPut(e.Text), func(h *freeHead) {}},
		{"mark", 0, e.Text, func(h *freeHead) { h.mark = "PK\x01\x02" }},
		{"mark", 0, e.Text, func(h *freeHead) { h.mark = "PK\x03\x05" }},
		{"mark", 0, e.Text, func(h *freeHead) { h.mark = "pk\x03\x04" }},
		{"version", 0, e.Text, func(h *freeHead) { h.version = 10 }},
		{"version", 8, packed, func(h *freeHead) { h.version = 45 }},
		{"version", 8, packed, func(h *freeHead) { h.version = 20 + 256 }},
		{"flags", 0, e.Text, func(h *freeHead) { h.flags = 1 }},
		{"flags", 8, packed, func(h *freeHead) { h.flags = 8 }},
		{"flags", 8, packed, func(h *freeHead) { h.flags = 1 << 11 }},
		{"how", 1, e.Text, func(h *freeHead) {}},
		{"how", 9, packed, func(h *freeHead) {}},
		{"how", 8 + 256, packed, func(h *freeHead) {}},
		{"packed", 8, e.Text, func(h *freeHead) {}},
		{"long", 0, packed, func(h *freeHead) {}},
		{"packed", 8, packed + "\x00", func(h *freeHead) {}},
		{"packed", 8, packed[:len(packed)-1], func(h *freeHead) {}},
		{"packed", 8, packed, func(h *freeHead) { h.packed-- }},
		{"packed", 8, packed, func(h *freeHead) { h.packed, h.body = h.packed+1, h.body+"behind" }},
		{"packed", 8, "", func(h *freeHead) {}},
		{"short", 8, packed, func(h *freeHead) { h.packed++ }},
		{"short", 0, e.Text, func(h *freeHead) { h.packed = 1<<32 - 1 }},
		{"short", 0, e.Text, func(h *freeHead) { h.packed, h.long = 1<<31, 1<<31 }},
		{"long", 0, e.Text, func(h *freeHead) { h.packed-- }},
		{"long", 0, e.Text, func(h *freeHead) { h.long-- }},
		{"long", 8, packed, func(h *freeHead) { h.long++ }},
		{"long", 8, packed, func(h *freeHead) { h.long = h.packed }},
		{"long", 8, packed, func(h *freeHead) { h.long += 1 << 16 }},
		{"sum", 0, e.Text, func(h *freeHead) { h.crc ^= 1 }},
		{"sum", 8, packed, func(h *freeHead) { h.crc ^= 1 << 31 }},
		{"sum", 8, packed, func(h *freeHead) { h.crc = impl.Crc(packed) }},
		{"stamp", 8, packed, func(h *freeHead) { h.stamp = 0 }},
		{"stamp", 8, packed, func(h *freeHead) { h.stamp = 1<<32 - 1 }},
		{"stamp", 8, packed, func(h *freeHead) { h.stamp += 3 }},
		{"extra", 8, packed, func(h *freeHead) { h.extra = 1 }},
		{"extra", 8, packed, func(h *freeHead) { h.extra, h.body = 4, "\x01\x00\x00\x00"+h.body }},
		{"short", 8, packed, func(h *freeHead) { h.nameLong = 65535 }},
		{"packed", 8, packed, func(h *freeHead) { h.nameLong-- }},
		{"name", 8, packed, func(h *freeHead) { h.nameLong, h.name = 0, "" }},
		{"name", 8, packed, func(h *freeHead) { h.name = "dir//" }},
		{"name", 8, packed, func(h *freeHead) { h.name = "../ab" }},
		{"name", 8, packed, func(h *freeHead) { h.name = "Dir/b" }},
		{"name", 8, packed, func(h *freeHead) { h.nameLong, h.name = 11, "elevenlette" }},
		{"name", 8, packed, func(h *freeHead) { h.nameLong, h.name = 9, "a/b/c/d/e" }},
		{"", 8, packed, func(h *freeHead) { h.nameLong, h.name = 43, strings.Repeat("tenletters/", 4)[:43] }},
		{"name", 8, packed, func(h *freeHead) { h.nameLong, h.name = 44, strings.Repeat("tenletters/", 4) }},
		{"name", 8, packed, func(h *freeHead) { h.nameLong, h.name = 60000, strings.Repeat("a", 60000) }},
	} {
		h := freeOf(e, c.how, c.body)
		c.change(&h)
		if why := checkLocal(t, h.text()); why != c.why {
			t.Errorf("%d: %q, not %q", i, why, c.why)
		}
	}
}

// Texts as long as they may be, and one byte longer, in either way.
func TestFilesAtTheirBounds(t *testing.T) {
	for _, long := range []int{0, impl.TextMax, impl.TextMax + 1, impl.FlateMax, 66000} {
		e := fileOf("a", strings.Repeat("q", long))
		if why := checkLocal(t, freeOf(e, 0, e.Text).text()); (why == "") != (long <= impl.TextMax) {
			t.Errorf("%d bytes as they are: %q", long, why)
		}
	}
	for parts := 1; parts <= 150; parts++ {
		body := strings.Repeat("\x00\x00\x00\xff\xff", parts-1) + "\x01\x00\x00\xff\xff"
		if why := checkLocal(t, freeOf(fileOf("a", ""), 8, body).text()); (why == "") != (len(body) <= impl.FlateMax) {
			t.Errorf("%d bytes as they are packed: %q", len(body), why)
		}
	}
}

// Files with some bytes turned, cut, or put in, and no files at all.
func TestLocalGetOfAnything(t *testing.T) {
	r := seeded(66)
	seen := map[string]int{}
	for range 800 {
		s := []byte(oddHead(r, randomFile(r)).text())
		for range 5 {
			b := slices.Clone(s)
			for range r.Intn(3) {
				b[r.Intn(min(len(b), 32+r.Intn(len(b))))] ^= 1 << r.Intn(8)
			}
			if r.Intn(5) == 0 {
				b = slices.Delete(b, 0, r.Intn(2))
				place := r.Intn(len(b))
				b = slices.Delete(b, place, min(len(b), place+r.Intn(3)))
			}
			if r.Intn(5) == 0 {
				b = slices.Insert(b, r.Intn(len(b)+1), byte(r.Intn(256)))
			}
			seen[checkLocal(t, string(b))]++
		}
	}
	for range 500 {
		seen[checkLocal(t, "PK\x03\x04\x14\x00\x00\x00"+randomText(r, r.Intn(60)))]++
		seen[checkLocal(t, randomText(r, r.Intn(60)))]++
	}
	for _, why := range []string{"", "short", "mark", "version", "flags", "extra", "how", "packed", "long", "sum", "stamp", "name"} {
		if seen[why] == 0 {
			t.Errorf("never: %q; %v", why, seen)
		}
	}
}
