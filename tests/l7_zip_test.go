package tests

import (
	"archive/zip"
	"bytes"
	"io"
	"slices"
	"strings"
	"testing"

	"loop.example/corbel/impl"
)

// someArchives are lists of files that make an archive, the longest and the shortest among them.
func someArchives(seed int64) [][]impl.Entry {
	r := seeded(seed)
	lists := [][]impl.Entry{nil, filesOf("a"), {fileOf("a", "")}, filesOf("a", "b"), filesOf("dir/a", "dir/b", "dir.a", "dir-a", "dira", "di")}
	var full []impl.Entry
	for i := range impl.ZipMax {
		name := strings.Repeat("tenletters/", 3) + "ninelett-" + string(rune('0'+i))
		full = append(full, impl.Entry{Name: name, At: randomStamp(r), Text: randomText(r, impl.TextMax)})
	}
	lists = append(lists, full)
	for range 12 {
		for many := range impl.ZipMax + 1 {
			lists = append(lists, randomFiles(r, many))
		}
	}
	return lists
}

// checkNone asks that a text is no archive to any that reads one.
func checkNone(t *testing.T, text string, what string) {
	t.Helper()
	if list, ok := impl.ZipGet(text); len(list) != 0 || ok {
		t.Fatalf("%s: %q: %v %v", what, text, list, ok)
	}
	if names := impl.ZipNames(text); len(names) != 0 {
		t.Fatalf("%s: %q: %v", what, text, names)
	}
	if said, ok := impl.ZipFind(text, "a"); said != "" || ok {
		t.Fatalf("%s: %q: %q %v", what, text, said, ok)
	}
}

func TestP30FilesAreReadBack(t *testing.T) {
	for _, list := range someArchives(30) {
		if !impl.ZipOk(list) {
			t.Fatalf("%v make none", list)
		}
		text := impl.ZipPut(list)
		if want := zipSlowly(list); text != want {
			t.Fatalf("%v: %q, not %q", list, text, want)
		}
		if got, ok := impl.ZipGet(text); !same(got, list) || !ok {
			t.Fatalf("%q: %v %v, not %v", text, got, ok, list)
		}
		if why := checkZip(t, text); why != "" {
			t.Fatalf("%q: %s", text, why)
		}
	}
}

// writtenByAll is an archive as all the world writes it, where it is told each number.
func writtenByAll(t *testing.T, list []impl.Entry) string {
	t.Helper()
	var b bytes.Buffer
	w := zip.NewWriter(&b)
	for _, e := range list {
		h := headSlowly(e)
		f, err := w.CreateRaw(&zip.FileHeader{Name: e.Name, CreatorVersion: 20, ReaderVersion: 20, Method: uint16(h.how), ModifiedTime: uint16(h.stamp), ModifiedDate: uint16(h.stamp >> 16), CRC32: uint32(h.crc), CompressedSize64: uint64(h.packed), UncompressedSize64: uint64(h.long)})
		if err != nil {
			t.Fatal(err)
		}
		if _, err := f.Write([]byte(h.body)); err != nil {
			t.Fatal(err)
		}
	}
	if err := w.Close(); err != nil {
		t.Fatal(err)
	}
	return b.String()
}

// An archive is one to all the world: it is written so, and read so.
func TestP30ArchivesAreThoseOfAllTheWorld(t *testing.T) {
	for _, list := range someArchives(300) {
		text := impl.ZipPut(list)
		if want := writtenByAll(t, list); text != want {
			t.Fatalf("%v: %q, not %q", list, text, want)
		}
		z, err := zip.NewReader(strings.NewReader(text), int64(len(text)))
		if err != nil || len(z.File) != len(list) {
			t.Fatalf("%q: %v", text, err)
		}
		for i, f := range z.File {
			source, err := f.Open()
			if err != nil {
				t.Fatal(err)
			}
			said, err := io.ReadAll(source)
			if err != nil || string(said) != list[i].Text || f.Name != list[i].Name {
				t.Fatalf("%q: %q %q %v, not %v", text, f.Name, said, err, list[i])
			}
			at := f.Modified
			if s := (impl.Stamp{Year: at.Year(), Month: int(at.Month()), Day: at.Day(), Hour: at.Hour(), Minute: at.Minute(), Second: at.Second()}); s != list[i].At {
				t.Fatalf("%q: %v, not %v", text, s, list[i].At)
			}
		}
	}
}

// What others write with flags, or with lengths behind a text, is refused.
func TestWhatOthersWriteIsRefused(t *testing.T) {
	var b bytes.Buffer
	w := zip.NewWriter(&b)
	f, err := w.Create("a")
	if err != nil {
		t.Fatal(err)
	}
	f.Write([]byte("some text"))
	w.Close()
	checkNone(t, b.String(), "of others")
	if why := checkZip(t, b.String()); why == "" {
		t.Error("it is one")
	}
}

func TestP31WhatIsReadMakesOne(t *testing.T) {
	r := seeded(31)
	for _, list := range someArchives(310) {
		text := oddZip(r, list)
		if why := checkZip(t, text); why != "" {
			t.Fatalf("%q: %s", text, why)
		}
		got, ok := impl.ZipGet(text)
		if !same(got, list) || !ok || !impl.ZipOk(got) {
			t.Fatalf("%q: %v %v, not %v", text, got, ok, list)
		}
		if again, ok := impl.ZipGet(impl.ZipPut(got)); !same(again, got) || !ok {
			t.Fatalf("%v are written as %v", got, again)
		}
	}
}

func TestP32WithoutTheLastByteOrWithOneMore(t *testing.T) {
	r := seeded(32)
	for _, list := range someArchives(320) {
		text := impl.ZipPut(list)
		checkNone(t, text[:len(text)-1], "without the last byte")
		for _, more := range []string{"\x00", "P", "\xff", text, text[:22], "PK\x05\x06", randomText(r, 40)} {
			checkNone(t, text+more, "with more")
			checkNone(t, more[:1]+text, "with more ahead")
		}
	}
	text := impl.ZipPut(filesOf("a", "dir/b"))
	for long := range len(text) {
		checkNone(t, text[:long], "a beginning")
		if rest := text[long:]; long > 0 {
			checkNone(t, rest, "an end")
		}
	}
}

func TestP33NamesAreThoseOfFiles(t *testing.T) {
	r := seeded(33)
	for _, list := range someArchives(330) {
		for _, text := range []string{impl.ZipPut(list), oddZip(r, list)} {
			names := impl.ZipNames(text)
			if !same(names, namesOf(list)) {
				t.Fatalf("%v, not %v", names, namesOf(list))
			}
			for i, name := range names {
				if said, ok := impl.ZipFind(text, name); said != list[i].Text || !ok {
					t.Fatalf("%q: %q %v, not %q", name, said, ok, list[i].Text)
				}
			}
		}
	}
}

func TestP34WhatIsFoundIsOfThatName(t *testing.T) {
	for _, list := range someArchives(340) {
		text := impl.ZipPut(list)
		names := impl.ZipNames(text)
		for _, name := range append(append(badNames(), "a", "b", "dir", "dir/a", "dir/", "di", "tenletters"), names...) {
			for _, other := range []string{name, name + "x", name + "/x", strings.ToUpper(name), strings.TrimSuffix(name, "x"), name + "\x00", " " + name} {
				if said, ok := impl.ZipFind(text, other); ok != slices.Contains(names, other) || !ok && said != "" {
					t.Fatalf("%q in %v: %q %v", other, names, said, ok)
				}
			}
		}
	}
	if said, ok := impl.ZipFind("x", "a"); said != "" || ok {
		t.Errorf("%q %v", said, ok)
	}
	if said, ok := impl.ZipFind(impl.LocalPut(fileOf("a", "x")), "a"); said != "" || ok {
		t.Errorf("%q %v", said, ok)
	}
}

func TestP71AnArchiveWithoutFiles(t *testing.T) {
	none := impl.ZipPut(nil)
	if none != "PK\x05\x06"+strings.Repeat("\x00", 18) || impl.ZipPut([]impl.Entry{}) != none || !impl.ZipOk(nil) {
		t.Errorf("%q", none)
	}
	if list, ok := impl.ZipGet(none); len(list) != 0 || !ok || len(impl.ZipNames(none)) != 0 {
		t.Errorf("%v %v", list, ok)
	}
	r := seeded(71)
	for range 60 {
		e := randomFile(r)
		if text, code := impl.ZipAdd(none, e); text != impl.ZipPut([]impl.Entry{e}) || code != impl.EditFine {
			t.Fatalf("%v: %q %d", e, text, code)
		}
	}
}

func TestP72NamesWithinOthers(t *testing.T) {
	names := []string{"a", "b", "ab", "a.", "a-", "a_", "a0", "a/b", "a/c", "a/bc", "a/b.", "a/b/c", "a/b/c/d", "b/a", "a.b", "a-/b", "ab/c", "a0/b"}
	for _, x := range names {
		for _, y := range names {
			want := !clashSlowly(x, y)
			list := []impl.Entry{fileOf(x, "x"), fileOf(y, "y")}
			if impl.ZipOk(list) != want || (impl.ZipPut(list) != "") != want {
				t.Fatalf("%q and %q: %v", x, y, !want)
			}
			// The heads alone do not make it one.
			if why := checkZip(t, freeZipOf([]freeHead{headSlowly(list[0]), headSlowly(list[1])}).text()); (why == "") != want {
				t.Fatalf("%q and %q: %q", x, y, why)
			}
			archive := impl.ZipPut(list[:1])
			text, code := impl.ZipAdd(archive, list[1])
			if want && (code != impl.EditFine || text != impl.ZipPut(list)) || !want && (code != impl.EditTwice || text != archive) {
				t.Fatalf("%q to %q: %d", y, x, code)
			}
			// Far apart too.
			far := []impl.Entry{fileOf(x, "x"), fileOf("z0", ""), fileOf("z1", ""), fileOf(y, "y")}
			if impl.ZipOk(far) != want {
				t.Fatalf("%q and %q, far apart: %v", x, y, !want)
			}
		}
	}
}

func TestFilesThatMakeNoArchive(t *testing.T) {
	good := filesOf("a0", "a1", "a2", "a3", "a4", "a5", "a6")
	for many := range len(good) + 1 {
		if ok := impl.ZipOk(good[:many]); ok != (many <= impl.ZipMax) || (impl.ZipPut(good[:many]) != "") != ok {
			t.Errorf("%d files: %v", many, ok)
		}
	}
	for _, bad := range badFiles() {
		for place := range 4 {
			list := slices.Insert(slices.Clone(good[:3]), place, bad)
			if impl.ZipOk(list) || impl.ZipPut(list) != "" {
				t.Errorf("%v at %d make one", bad, place)
			}
		}
	}
	if impl.ZipOk(repeated(fileOf("a", ""), 100000)) {
		t.Error("one file many times")
	}
	var heads []freeHead
	for _, e := range good {
		heads = append(heads, headSlowly(e))
	}
	if why := checkZip(t, freeZipOf(heads[:6]).text()); why != "" {
		t.Errorf("six: %q", why)
	}
	if why := checkZip(t, freeZipOf(heads).text()); why != "files" {
		t.Errorf("seven: %q", why)
	}
}

func TestP91FilesStandInTheirOrder(t *testing.T) {
	for _, list := range someArchives(91) {
		text := impl.ZipPut(list)
		place := 0
		for _, e := range list {
			got, took, ok := impl.LocalGet(text[place:])
			if got != e || !ok || text[place:place+took] != impl.LocalPut(e) {
				t.Fatalf("%v, not %v", got, e)
			}
			place += took
		}
		if _, _, ok := impl.LocalGet(text[place:]); ok {
			t.Fatalf("one file more in %q", text)
		}
	}
}

// bodyBytes says of each byte of an archive whether it is one of a text.
func bodyBytes(list []impl.Entry) []bool {
	var is []bool
	for _, e := range list {
		h := headSlowly(e)
		is = append(is, repeated(false, 30+len(h.name))...)
		is = append(is, repeated(true, len(h.body))...)
	}
	return append(is, repeated(false, len(zipSlowly(list))-len(is))...)
}

func TestP92AByteOfHeadsOrTheEndIsTurned(t *testing.T) {
	r := seeded(92)
	for _, list := range someArchives(920)[:27] {
		text := impl.ZipPut(list)
		body := bodyBytes(list)
		for i := range len(text) {
			for _, x := range []byte{1, 0x80, 0xff, byte(1 + r.Intn(255))} {
				b := []byte(text)
				b[i] ^= x
				got, ok := impl.ZipGet(string(b))
				if ok && (!body[i] || !same(got, list)) || !ok && len(got) != 0 {
					t.Fatalf("%q with byte %d turned: %v", text, i, got)
				}
			}
		}
	}
}

// Each byte of a small archive, in all ways.
func TestP92EachByteInAllWays(t *testing.T) {
	list := []impl.Entry{fileOf("a", "some text"), fileOf("dir/b", "aaaaaaaaaaaaaaaaaaaa")}
	text := impl.ZipPut(list)
	body := bodyBytes(list)
	for i := range len(text) {
		for x := 1; x < 256; x++ {
			b := []byte(text)
			b[i] ^= byte(x)
			if x&(x-1) == 0 {
				checkZip(t, string(b))
			}
			if got, ok := impl.ZipGet(string(b)); ok && (!body[i] || !same(got, list)) {
				t.Fatalf("byte %d is %d: %v", i, b[i], got)
			}
		}
	}
}

// changed is an archive of three files, with a change to its heads ahead of all, and one to all of it behind.
func changed(heads func([]freeHead), all func(*freeZip)) string {
	var list []freeHead
	for _, e := range filesOf("a", "dir/b", "c") {
		list = append(list, headSlowly(e))
	}
	heads(list)
	z := freeZipOf(list)
	all(&z)
	return z.text()
}

// Both heads of a file tell alike, but otherwise than may be, or than the text.
func TestBothHeadsTellOtherwise(t *testing.T) {
	for i, c := range []struct {
		why    string
		change func(*freeHead)
	}{
		{"", func(h *freeHead) {}},
		{"mark", func(h *freeHead) { h.mark = "PK\x01\x02" }},
		{"version", func(h *freeHead) { h.version = 10 }},
		{"flags", func(h *freeHead) { h.flags = 2 }},
		{"how", func(h *freeHead) { h.how = 12 }},
		{"packed", func(h *freeHead) { h.how, h.body = 8, "\x07"+h.body[1:] }},
		{"long", func(h *freeHead) { h.how = 0 }},
		{"sum", func(h *freeHead) { h.crc++ }},
		{"long", func(h *freeHead) { h.long++ }},
		{"packed", func(h *freeHead) { h.packed-- }},
		{"packed", func(h *freeHead) { h.packed, h.body = h.packed+1, h.body+"\x00" }},
		{"extra", func(h *freeHead) { h.extra = 2 }},
		{"extra", func(h *freeHead) { h.extra, h.name = 4, h.name+"\x01\x00\x00\x00" }},
		{"stamp", func(h *freeHead) { h.stamp = stampNumber(impl.Stamp{Year: 2100, Month: 2, Day: 29}) }},
		{"stamp", func(h *freeHead) { h.stamp = stampNumber(impl.Stamp{Year: 2024, Month: 2, Day: 30}) }},
		{"stamp", func(h *freeHead) { h.stamp = 0 }},
		{"name", func(h *freeHead) { h.name = "dir//" }},
		{"name", func(h *freeHead) { h.name = "../up" }},
		{"name", func(h *freeHead) { h.name, h.nameLong = "", 0 }},
		{"files", func(h *freeHead) { h.name, h.nameLong = "a", 1 }},
		{"files", func(h *freeHead) { h.name, h.nameLong = "c", 1 }},
		{"files", func(h *freeHead) { h.name = "a/b/x" }},
		{"files", func(h *freeHead) { h.name = "c/b/x" }},
		{"", func(h *freeHead) { h.name = "a.b/x" }},
	} {
		text := changed(func(list []freeHead) { c.change(&list[1]) }, func(*freeZip) {})
		if why := checkZip(t, text); why != c.why {
			t.Errorf("%d: %q, not %q", i, why, c.why)
		}
	}
}

// The list, or the end, tells otherwise than the files.
func TestP92TheListTellsOtherwise(t *testing.T) {
	for i, c := range []struct {
		why    string
		change func(*freeZip)
	}{
		{"", func(z *freeZip) {}},
		{"list mark", func(z *freeZip) { z.lists[1].mark = "PK\x03\x04" }},
		{"made", func(z *freeZip) { z.lists[1].made = 0x0314 }},
		{"version", func(z *freeZip) { z.lists[1].head.version = 45 }},
		{"flags", func(z *freeZip) { z.lists[1].head.flags = 8 }},
		{"extra", func(z *freeZip) { z.lists[1].head.extra = 1 }},
		{"otherwise", func(z *freeZip) { z.lists[1].head.how = 0 }},
		{"otherwise", func(z *freeZip) { z.lists[1].head.stamp++ }},
		{"otherwise", func(z *freeZip) { z.lists[1].head.crc ^= 1 << 31 }},
		{"otherwise", func(z *freeZip) { z.lists[1].head.packed-- }},
		{"otherwise", func(z *freeZip) { z.lists[1].head.long++ }},
		{"otherwise", func(z *freeZip) { z.lists[1].name = "dir/c" }},
		{"blank", func(z *freeZip) { z.lists[1].blank = strings.Repeat("\x00", 9) + "\x01" }},
		{"blank", func(z *freeZip) { z.lists[1].blank = "\x01" + strings.Repeat("\x00", 9) }},
		{"place", func(z *freeZip) { z.lists[1].place++ }},
		{"place", func(z *freeZip) { z.lists[1].place = 0 }},
		{"place", func(z *freeZip) { z.lists[1].place += 1 << 24 }},
		{"place", func(z *freeZip) { z.lists[0].place, z.lists[1].place = z.lists[1].place, z.lists[0].place }},
		// The list in another order than the files.
		{"place", func(z *freeZip) { z.lists[0], z.lists[1] = z.lists[1], z.lists[0] }},
		{"place", func(z *freeZip) { z.lists[1] = z.lists[0]; z.listLong = len(z.list()) }},
		{"otherwise", func(z *freeZip) { z.files[0], z.files[1] = z.files[1], z.files[0]; z.lists[1].place = len(z.files[0]) }},
		// A file that is not in the list, and a list with one more.
		{"place", func(z *freeZip) {
			z.lists = z.lists[1:]
			z.many, z.all, z.listLong = 2, 2, len(z.list())
		}},
		{"gap", func(z *freeZip) {
			z.lists = z.lists[:2]
			z.many, z.all, z.listLong = 2, 2, len(z.list())
		}},
		{"gap", func(z *freeZip) { z.many, z.all = 2, 2 }},
		{"place", func(z *freeZip) {
			z.lists = append(z.lists, z.lists[0])
			z.many, z.all, z.listLong = 4, 4, len(z.list())
		}},
		{"list mark", func(z *freeZip) { z.many, z.all = 4, 4 }},
		// Something between.
		{"place", func(z *freeZip) {
			z.files[0] += "x"
			z.listPlace++
			z.lists[1].place++
			z.lists[2].place++
		}},
		{"gap", func(z *freeZip) { z.files[2] += "x"; z.listPlace++ }},
		{"list", func(z *freeZip) { z.files[2] += "x" }},
		{"place", func(z *freeZip) { z.files[0] = "x" + z.files[0]; z.listPlace++; z.lists[0].place++ }},
		{"list end", func(z *freeZip) { z.lists[2].name += "x"; z.listLong++ }},
		{"list", func(z *freeZip) { z.lists[2].name += "x" }},
		{"end mark", func(z *freeZip) { z.mark = "PK\x06\x06" }},
		{"disk", func(z *freeZip) { z.disk = 1 }},
		{"disk", func(z *freeZip) { z.from = 1 }},
		{"many", func(z *freeZip) { z.many = 2 }},
		{"many", func(z *freeZip) { z.all = 4 }},
		{"list", func(z *freeZip) { z.listLong-- }},
		{"list", func(z *freeZip) { z.listPlace++ }},
		{"gap", func(z *freeZip) { z.many, z.all, z.listLong, z.listPlace = 0, 0, 0, z.listPlace+z.listLong }},
		{"note", func(z *freeZip) { z.note = 1 }},
	} {
		text := changed(func([]freeHead) {}, c.change)
		if why := checkZip(t, text); why != c.why {
			t.Errorf("%d: %q, not %q", i, why, c.why)
		}
	}
	checkNone(t, changed(func([]freeHead) {}, func(z *freeZip) { z.note = 4 })+"note", "a note")
}

// An archive whose texts hold archives, and heads, is read by its own ones.
func TestArchivesWithinArchives(t *testing.T) {
	inner := impl.ZipPut([]impl.Entry{fileOf("a", "x")})
	list := []impl.Entry{fileOf("a", inner), fileOf("b", impl.LocalPut(fileOf("c", "y"))), fileOf("c", inner[32:]), fileOf("d", inner[len(inner)-22:])}
	text := impl.ZipPut(list)
	if got, ok := impl.ZipGet(text); !same(got, list) || !ok {
		t.Errorf("%v %v", got, ok)
	}
	said, _ := impl.ZipFind(text, "a")
	if again, ok := impl.ZipFind(said, "a"); again != "x" || !ok {
		t.Errorf("%q %v", again, ok)
	}
	checkNone(t, inner+inner, "two archives")
	checkNone(t, impl.LocalPut(fileOf("b", ""))+inner, "an archive behind a file")
}

// Archives with some bytes turned, cut, put in, or told again, and no archives at all.
func TestZipGetOfAnything(t *testing.T) {
	r := seeded(77)
	seen := map[string]int{}
	for range 400 {
		s := []byte(oddZip(r, randomFiles(r, r.Intn(impl.ZipMax+1))))
		for range 8 {
			b := slices.Clone(s)
			for range r.Intn(3) {
				b[r.Intn(len(b))] ^= 1 << r.Intn(8)
			}
			if r.Intn(4) == 0 {
				b[len(b)-1-r.Intn(22)] ^= 1 << r.Intn(3)
			}
			if r.Intn(8) == 0 {
				place := r.Intn(len(b))
				b = slices.Delete(b, place, min(len(b), place+r.Intn(3)))
			}
			if r.Intn(8) == 0 {
				b = slices.Insert(b, r.Intn(len(b)+1), byte(r.Intn(256)))
			}
			seen[checkZip(t, string(b))]++
		}
	}
	for range 300 {
		seen[checkZip(t, randomText(r, r.Intn(60)))]++
	}
	for _, why := range []string{"", "short", "end mark", "disk", "many", "list", "note", "list mark", "otherwise", "place", "sum", "packed"} {
		if seen[why] == 0 {
			t.Errorf("never: %q; %v", why, seen)
		}
	}
}
