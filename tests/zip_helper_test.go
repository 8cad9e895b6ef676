package tests

import (
	"encoding/binary"
	"hash/crc32"
	"math/rand"
	"regexp"
	"slices"
	"strings"
	"testing"
	"time"

	"loop.example/corbel/impl"
)

// Archives are built and read here in another way than the program does: from the end on, field by field.

// nameForm is a name of a file, but for parts that are dots.
var nameForm = regexp.MustCompile(`\A[a-z0-9._-]{1,10}(/[a-z0-9._-]{1,10}){0,3}\z`)

// dotsForm is a part that is one dot or two.
var dotsForm = regexp.MustCompile(`(\A|/)\.\.?(/|\z)`)

// nameSlowly is NameOk, as the document says it.
func nameSlowly(name string) bool {
	return nameForm.MatchString(name) && !dotsForm.MatchString(name)
}

// clashSlowly says whether one name is the other one, or within it: part by part.
func clashSlowly(a string, b string) bool {
	x, y := strings.Split(a, "/"), strings.Split(b, "/")
	many := min(len(x), len(y))
	return slices.Equal(x[:many], y[:many])
}

// stampSlowly is StampOk: a day and a time that the library has under no other name.
func stampSlowly(s impl.Stamp) bool {
	if s.Year < 1980 || s.Year > 2107 || s.Second%2 != 0 || max(s.Month, s.Day, s.Hour, s.Minute, s.Second) > 60 || min(s.Month, s.Day, s.Hour, s.Minute, s.Second) < 0 {
		return false
	}
	at := time.Date(s.Year, time.Month(s.Month), s.Day, s.Hour, s.Minute, s.Second, 0, time.UTC)
	return at.Year() == s.Year && int(at.Month()) == s.Month && at.Day() == s.Day && at.Hour() == s.Hour && at.Minute() == s.Minute && at.Second() == s.Second
}

// stampNumber is StampPut of a stamp that is ok.
func stampNumber(s impl.Stamp) int {
	return ((((s.Year-1980)*16+s.Month)*32+s.Day)*32+s.Hour)*2048 + s.Minute*32 + s.Second/2
}

// stampOfNumber is what a number of 32 bits would be.
func stampOfNumber(n int) impl.Stamp {
	return impl.Stamp{Second: n % 32 * 2, Minute: n / 32 % 64, Hour: n / 2048 % 32, Day: n / 65536 % 32, Month: n / 2097152 % 16, Year: 1980 + n/33554432}
}

// filesSlowly is ZipOk, as the document says it.
func filesSlowly(list []impl.Entry) bool {
	for i, e := range list {
		if !nameSlowly(e.Name) || !stampSlowly(e.At) || len(e.Text) > 300 {
			return false
		}
		for _, f := range list[:i] {
			if clashSlowly(e.Name, f.Name) {
				return false
			}
		}
	}
	return len(list) <= 6
}

// le2 is a number of two bytes, the lowest first.
func le2(n int) string {
	return string(binary.LittleEndian.AppendUint16(nil, uint16(n)))
}

// le4 is one of four bytes.
func le4(n int) string {
	return string(binary.LittleEndian.AppendUint32(nil, uint32(n)))
}

// freeHead is a file's own head, and what is behind it, in all its freedom.
type freeHead struct {
	mark     string
	version  int
	flags    int
	how      int
	stamp    int
	crc      int
	packed   int
	long     int
	nameLong int
	extra    int
	name     string
	body     string
}

// freeOf is the head that tells a file rightly, its text being packed so.
func freeOf(e impl.Entry, how int, body string) freeHead {
	return freeHead{mark: "PK\x03\x04", version: 20, how: how, stamp: stampNumber(e.At), crc: int(crc32.ChecksumIEEE([]byte(e.Text))), packed: len(body), long: len(e.Text), nameLong: len(e.Name), name: e.Name, body: body}
}

// told is what both heads tell alike.
func (h freeHead) told() string {
	return le2(h.version) + le2(h.flags) + le2(h.how) + le4(h.stamp) + le4(h.crc) + le4(h.packed) + le4(h.long) + le2(h.nameLong) + le2(h.extra)
}

func (h freeHead) text() string {
	return h.mark + h.told() + h.name + h.body
}

// bestSlowly is FlatePut, as the document says it.
func bestSlowly(text string) string {
	best := bytesOf(storeRow("", true, text))
	for _, packed := range []string{bytesOf(fixedRow(true, tokensSlowly(text))), ownSlowly(text)} {
		if len(packed) < len(best) {
			best = packed
		}
	}
	return best
}

// headSlowly is what LocalPut writes, as the document says it.
func headSlowly(e impl.Entry) freeHead {
	if packed := bestSlowly(e.Text); len(packed) < len(e.Text) {
		return freeOf(e, 8, packed)
	}
	return freeOf(e, 0, e.Text)
}

// oddHead is a head of a file that is packed in any way that may be.
func oddHead(r *rand.Rand, e impl.Entry) freeHead {
	if kind := r.Intn(4); kind < 3 {
		return freeOf(e, 8, packers[kind](e.Text))
	}
	return freeOf(e, 0, e.Text)
}

// freeList is a head in the list.
type freeList struct {
	mark  string
	made  int
	head  freeHead
	blank string
	place int
	name  string
}

func (l freeList) text() string {
	return l.mark + le2(l.made) + l.head.told() + l.blank + le4(l.place) + l.name
}

// freeZip is an archive in all its freedom.
type freeZip struct {
	files     []string
	lists     []freeList
	mark      string
	disk      int
	from      int
	many      int
	all       int
	listLong  int
	listPlace int
	note      int
}

// freeZipOf is the archive of such heads.
func freeZipOf(heads []freeHead) freeZip {
	z := freeZip{mark: "PK\x05\x06", many: len(heads), all: len(heads)}
	for _, h := range heads {
		z.lists = append(z.lists, freeList{mark: "PK\x01\x02", made: 20, head: h, blank: strings.Repeat("\x00", 10), place: z.listPlace, name: h.name})
		z.files = append(z.files, h.text())
		z.listPlace += len(h.text())
	}
	z.listLong = len(z.list())
	return z
}

func (z freeZip) list() string {
	text := ""
	for _, l := range z.lists {
		text += l.text()
	}
	return text
}

func (z freeZip) text() string {
	return strings.Join(z.files, "") + z.list() + z.mark + le2(z.disk) + le2(z.from) + le2(z.many) + le2(z.all) + le4(z.listLong) + le4(z.listPlace) + le2(z.note)
}

// zipSlowly is ZipPut of files that are ok, as the document says it.
func zipSlowly(list []impl.Entry) string {
	var heads []freeHead
	for _, e := range list {
		heads = append(heads, headSlowly(e))
	}
	return freeZipOf(heads).text()
}

// oddZip is an archive of files that are packed in any way that may be.
func oddZip(r *rand.Rand, list []impl.Entry) string {
	var heads []freeHead
	for _, e := range list {
		heads = append(heads, oddHead(r, e))
	}
	return freeZipOf(heads).text()
}

// headReader reads numbers and texts; it panics with a text where there is no such file, or no such archive.
type headReader struct {
	text  string
	place int
}

func (r *headReader) need(ok bool, why string) {
	if !ok {
		panic(why)
	}
}

func (r *headReader) take(long int) string {
	r.need(r.place+long <= len(r.text), "short")
	r.place += long
	return r.text[r.place-long : r.place]
}

func (r *headReader) two() int {
	return int(binary.LittleEndian.Uint16([]byte(r.take(2))))
}

func (r *headReader) four() int {
	return int(binary.LittleEndian.Uint32([]byte(r.take(4))))
}

// told reads what both heads tell alike.
func (r *headReader) told() freeHead {
	h := freeHead{version: r.two(), flags: r.two(), how: r.two(), stamp: r.four(), crc: r.four(), packed: r.four(), long: r.four(), nameLong: r.two(), extra: r.two()}
	r.need(h.version == 20, "version")
	r.need(h.flags == 0, "flags")
	r.need(h.extra == 0, "extra")
	return h
}

// file reads a file with its head.
func (r *headReader) file() (impl.Entry, freeHead) {
	r.need(r.take(4) == "PK\x03\x04", "mark")
	h := r.told()
	h.name = r.take(h.nameLong)
	h.body = r.take(h.packed)
	text := h.body
	r.need(h.how == 0 || h.how == 8, "how")
	if h.how == 8 {
		unpacked, took, ok, _ := getSlowly(h.body)
		r.need(ok && took == len(h.body), "packed")
		text = unpacked
	}
	r.need(len(text) == h.long, "long")
	r.need(int(crc32.ChecksumIEEE([]byte(text))) == h.crc, "sum")
	e := impl.Entry{Name: h.name, At: stampOfNumber(h.stamp), Text: text}
	r.need(stampSlowly(e.At), "stamp")
	r.need(nameSlowly(e.Name), "name")
	r.need(len(text) <= 300, "text")
	return e, h
}

// inList reads a head in the list, and the file whose head it is.
func (r *headReader) inList(place int) (impl.Entry, int) {
	r.need(r.take(4) == "PK\x01\x02", "list mark")
	r.need(r.two() == 20, "made")
	told := r.told()
	r.need(r.take(10) == strings.Repeat("\x00", 10), "blank")
	r.need(r.four() == place, "place")
	told.name = r.take(told.nameLong)
	own := &headReader{text: r.text, place: place}
	e, h := own.file()
	h.body = ""
	r.need(h == told, "otherwise")
	return e, own.place
}

// zip reads an archive, from its end on.
func (r *headReader) zip() []impl.Entry {
	r.need(len(r.text) >= 22, "short")
	r.place = len(r.text) - 22
	r.need(r.take(4) == "PK\x05\x06", "end mark")
	r.need(r.two() == 0 && r.two() == 0, "disk")
	many := r.two()
	r.need(r.two() == many, "many")
	listLong, listPlace := r.four(), r.four()
	r.need(r.two() == 0, "note")
	r.need(listPlace+listLong == len(r.text)-22, "list")
	r.place = listPlace
	var list []impl.Entry
	next := 0
	for range many {
		e, end := r.inList(next)
		list = append(list, e)
		next = end
	}
	r.need(next == listPlace, "gap")
	r.need(r.place == len(r.text)-22, "list end")
	r.need(filesSlowly(list), "files")
	return list
}

// localSlowly is LocalGet, as the document says it; and why it is false, if it is.
func localSlowly(text string) (e impl.Entry, took int, ok bool, why string) {
	defer func() {
		if said := recover(); said != nil {
			e, took, ok, why = impl.Entry{}, 0, false, said.(string)
		}
	}()
	r := &headReader{text: text}
	e, _ = r.file()
	return e, r.place, true, ""
}

// filesOfSlowly is ZipGet, as the document says it; and why it is false, if it is.
func filesOfSlowly(text string) (list []impl.Entry, ok bool, why string) {
	defer func() {
		if said := recover(); said != nil {
			list, ok, why = nil, false, said.(string)
		}
	}()
	r := &headReader{text: text}
	return r.zip(), true, ""
}

// checkLocal holds LocalGet against what the document says; and is why a text has no file.
func checkLocal(t *testing.T, text string) string {
	t.Helper()
	want, long, may, why := localSlowly(text)
	e, took, ok := impl.LocalGet(text)
	if e != want || took != long || ok != may {
		t.Fatalf("LocalGet %q: %v %d %v, not %v %d %v %s", text, e, took, ok, want, long, may, why)
	}
	return why
}

// checkZip holds all that reads an archive against what the document says; and is why a text is none.
func checkZip(t *testing.T, text string) string {
	t.Helper()
	want, may, why := filesOfSlowly(text)
	list, ok := impl.ZipGet(text)
	if !same(list, want) || ok != may {
		t.Fatalf("ZipGet %q: %v %v, not %v %v %s", text, list, ok, want, may, why)
	}
	if names := impl.ZipNames(text); !same(names, namesOf(want)) {
		t.Fatalf("ZipNames %q: %v, not %v", text, names, namesOf(want))
	}
	for _, e := range want {
		if said, ok := impl.ZipFind(text, e.Name); said != e.Text || !ok {
			t.Fatalf("ZipFind %q %q: %q %v", text, e.Name, said, ok)
		}
	}
	return why
}

func namesOf(list []impl.Entry) []string {
	var names []string
	for _, e := range list {
		names = append(names, e.Name)
	}
	return names
}

// noon is a stamp of no account.
var noon = impl.Stamp{Year: 2024, Month: 2, Day: 29, Hour: 12, Minute: 34, Second: 56}

// fileOf is a file that was made at noon.
func fileOf(name string, text string) impl.Entry {
	return impl.Entry{Name: name, At: noon, Text: text}
}

// filesOf is files of such names, each with a text of its own.
func filesOf(names ...string) []impl.Entry {
	var list []impl.Entry
	for i, name := range names {
		list = append(list, fileOf(name, strings.Repeat(name+" ", 1+5*i)))
	}
	return list
}

func randomName(r *rand.Rand) string {
	for {
		var parts []string
		for range 1 + r.Intn(impl.PartMax) {
			b := make([]byte, 1+r.Intn(impl.NameMax))
			for i := range b {
				b[i] = "abcdefghijklmnopqrstuvwxyz0123456789.-_"[r.Intn(39)]
			}
			parts = append(parts, string(b))
		}
		if name := strings.Join(parts, "/"); nameSlowly(name) {
			return name
		}
	}
}

func randomStamp(r *rand.Rand) impl.Stamp {
	for {
		s := impl.Stamp{Year: 1980 + r.Intn(128), Month: 1 + r.Intn(12), Day: 1 + r.Intn(31), Hour: r.Intn(24), Minute: r.Intn(60), Second: 2 * r.Intn(30)}
		if stampSlowly(s) {
			return s
		}
	}
}

// randomWords is a text of any kind that may be in a file.
func randomWords(r *rand.Rand) string {
	long := r.Intn(impl.TextMax + 1)
	switch r.Intn(5) {
	case 0:
		return randomText(r, long)
	case 1:
		return lettersText(r, long, 1+r.Intn(6))
	case 2:
		return randomText(r, r.Intn(12))
	case 3:
		return ""
	}
	return woundText(r, long+1)[:long]
}

func randomFile(r *rand.Rand) impl.Entry {
	return impl.Entry{Name: randomName(r), At: randomStamp(r), Text: randomWords(r)}
}

// randomFiles is so many files that make an archive.
func randomFiles(r *rand.Rand, many int) []impl.Entry {
	var list []impl.Entry
	for len(list) < many {
		if more := append(slices.Clone(list), randomFile(r)); filesSlowly(more) {
			list = more
		}
	}
	return list
}

// badStamps are stamps that are just not ok.
func badStamps() []impl.Stamp {
	list := []impl.Stamp{{}, {Year: 2000}, {Year: 2000, Month: 1}, {Year: 2000, Day: 1}, {Year: 2100, Month: 2, Day: 29}, {Year: 2023, Month: 2, Day: 29}, {Year: 2024, Month: 2, Day: 30}}
	for _, change := range []func(*impl.Stamp){
		func(s *impl.Stamp) { s.Year = 1979 },
		func(s *impl.Stamp) { s.Year = 2108 },
		func(s *impl.Stamp) { s.Month = 0 },
		func(s *impl.Stamp) { s.Month = 13 },
		func(s *impl.Stamp) { s.Day = 0 },
		func(s *impl.Stamp) { s.Day = 32 },
		func(s *impl.Stamp) { s.Hour = -1 },
		func(s *impl.Stamp) { s.Hour = 24 },
		func(s *impl.Stamp) { s.Minute = -1 },
		func(s *impl.Stamp) { s.Minute = 60 },
		func(s *impl.Stamp) { s.Second = -2 },
		func(s *impl.Stamp) { s.Second = 60 },
		func(s *impl.Stamp) { s.Second = 1 },
		func(s *impl.Stamp) { s.Second = 59 },
	} {
		s := impl.Stamp{Year: 2000, Month: 1, Day: 1}
		change(&s)
		list = append(list, s)
	}
	return list
}

// badNames are texts that are just no names.
func badNames() []string {
	return []string{"", "/", "//", "a/", "/a", "a//b", ".", "..", "./a", "../a", "a/.", "a/..", "a/../b", "a/./b", "A", "aB", "a b", "a\\b", "a\x00", "a\n", "\u00e4", "a\xff", "a:b", "~", "elevenlette", "a/elevenlette", "elevenlette/a", "a/b/c/d/e", "a/b/c/d/"}
}

// badFiles are files that are just not ok.
func badFiles() []impl.Entry {
	list := []impl.Entry{{}, fileOf("a", strings.Repeat("q", impl.TextMax+1)), fileOf("a", strings.Repeat("q", 5000))}
	for _, s := range badStamps() {
		list = append(list, impl.Entry{Name: "a", At: s})
	}
	for _, name := range badNames() {
		list = append(list, fileOf(name, "x"))
	}
	return list
}
