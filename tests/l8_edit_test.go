package tests

import (
	"math/rand"
	"slices"
	"testing"

	"loop.example/corbel/impl"
)

// What is done to an archive is done here to a list of files, as the document says it; a code ends it.

func placeSlowly(list []impl.Entry, name string) int {
	return slices.Index(namesOf(list), name)
}

func clashesSlowly(list []impl.Entry, name string) bool {
	return slices.ContainsFunc(list, func(e impl.Entry) bool { return clashSlowly(e.Name, name) })
}

func addSlowly(list []impl.Entry, e impl.Entry) ([]impl.Entry, int) {
	switch {
	case !filesSlowly([]impl.Entry{e}):
		return list, 1
	case clashesSlowly(list, e.Name):
		return list, 3
	case len(list) == 6:
		return list, 4
	}
	return append(slices.Clone(list), e), 0
}

func dropSlowly(list []impl.Entry, name string) ([]impl.Entry, int) {
	place := placeSlowly(list, name)
	if place < 0 {
		return list, 2
	}
	return slices.Delete(slices.Clone(list), place, place+1), 0
}

func swapSlowly(list []impl.Entry, e impl.Entry) ([]impl.Entry, int) {
	place := placeSlowly(list, e.Name)
	switch {
	case !filesSlowly([]impl.Entry{e}):
		return list, 1
	case place < 0:
		return list, 2
	}
	list = slices.Clone(list)
	list[place] = e
	return list, 0
}

func moveSlowly(list []impl.Entry, name string, to string) ([]impl.Entry, int) {
	others, code := dropSlowly(list, name)
	switch {
	case !nameSlowly(to):
		return list, 1
	case code != 0:
		return list, code
	case clashesSlowly(others, to):
		return list, 3
	}
	list = slices.Clone(list)
	list[placeSlowly(list, name)].Name = to
	return list, 0
}

func joinSlowly(a []impl.Entry, b []impl.Entry) ([]impl.Entry, int) {
	list := a
	for _, e := range b {
		code := 0
		if list, code = addSlowly(list, e); code != 0 {
			return a, code
		}
	}
	return list, 0
}

// checkEdit holds what was done to an archive against the files that are in it then, or the code.
func checkEdit(t *testing.T, archive string, text string, code int, list []impl.Entry, want int) {
	t.Helper()
	told := archive
	if want == impl.EditFine {
		told = impl.ZipPut(list)
	}
	if text != told || code != want {
		t.Fatalf("%v: code %d, not %d; %q, not %q", impl.ZipNames(archive), code, want, text, told)
	}
}

// someFew are names of which many are within others, and such that are none.
var someFew = []string{"a", "b", "c", "d", "e", "f", "g", "ab", "a/b", "a/b/c", "a/c", "b/a", "dir", "dir/x", "dir.x", "dir-x", "A", "", "..", "a/", "elevenlette"}

func someName(r *rand.Rand) string {
	return someFew[r.Intn(len(someFew))]
}

// someFile is a file that is ok, but for its name, and now and then its stamp or its text.
func someFile(r *rand.Rand) impl.Entry {
	e := impl.Entry{Name: someName(r), At: randomStamp(r), Text: lettersText(r, r.Intn(40), 3)}
	switch r.Intn(20) {
	case 0:
		e.At.Second = 59
	case 1:
		e.Text = lettersText(r, impl.TextMax+1, 3)
	}
	return e
}

// fewFiles are files of such names that make an archive.
func fewFiles(r *rand.Rand, many int) []impl.Entry {
	var list []impl.Entry
	for range many {
		list, _ = addSlowly(list, someFile(r))
	}
	return list
}

// Deed after deed on one archive.
func TestDeedsOneAfterTheOther(t *testing.T) {
	r := seeded(80)
	seen := map[[2]int]int{}
	for range 60 {
		list := fewFiles(r, r.Intn(10))
		archive := impl.ZipPut(list)
		if r.Intn(2) == 0 {
			archive = oddZip(r, list)
		}
		for range 40 {
			var text string
			var code, want int
			next := list
			deed := r.Intn(6)
			switch e, to := someFile(r), someName(r); deed {
			case 0, 5:
				text, code = impl.ZipAdd(archive, e)
				next, want = addSlowly(list, e)
			case 1:
				text, code = impl.ZipDrop(archive, to)
				next, want = dropSlowly(list, to)
			case 2:
				text, code = impl.ZipSwap(archive, e)
				next, want = swapSlowly(list, e)
			case 3:
				text, code = impl.ZipMove(archive, e.Name, to)
				next, want = moveSlowly(list, e.Name, to)
			case 4:
				other := fewFiles(r, r.Intn(4))
				text, code = impl.ZipJoin(archive, oddZip(r, other))
				next, want = joinSlowly(list, other)
			}
			checkEdit(t, archive, text, code, next, want)
			seen[[2]int{deed % 5, code}]++
			archive, list = text, next
		}
	}
	for _, c := range [][2]int{{0, 0}, {0, 1}, {0, 3}, {0, 4}, {1, 0}, {1, 2}, {2, 0}, {2, 1}, {2, 2}, {3, 0}, {3, 1}, {3, 2}, {3, 3}, {4, 0}, {4, 3}, {4, 4}} {
		if seen[c] == 0 {
			t.Errorf("never: deed %d with code %d; %v", c[0], c[1], seen)
		}
	}
}

// What is no archive, whatever else is asked.
func TestDeedsToWhatIsNoArchive(t *testing.T) {
	archive := impl.ZipPut(filesOf("a", "b"))
	for _, none := range []string{"", "x", archive[:len(archive)-1], archive + "\x00", impl.LocalPut(fileOf("a", "x")), archive[1:]} {
		for _, e := range append(badFiles()[:5], fileOf("a", "x"), fileOf("z", "x")) {
			for i, got := range []editAnswer{
				answered(impl.ZipAdd(none, e)),
				answered(impl.ZipDrop(none, e.Name)),
				answered(impl.ZipSwap(none, e)),
				answered(impl.ZipMove(none, "a", e.Name)),
				answered(impl.ZipJoin(none, archive)),
				answered(impl.ZipJoin(archive, none)),
				answered(impl.ZipJoin(none, none)),
			} {
				if got.text != "" || got.code != impl.EditForm {
					t.Fatalf("%d, of %q: %q %d", i, none, got.text, got.code)
				}
			}
		}
	}
}

// editAnswer is what a deed answers.
type editAnswer struct {
	text string
	code int
}

func answered(text string, code int) editAnswer {
	return editAnswer{text: text, code: code}
}

// Of several codes the first that is told.
func TestTheFirstCode(t *testing.T) {
	full := impl.ZipPut(filesOf("a", "b", "c", "d", "e", "dir/f"))
	bad := fileOf("a", "x")
	bad.At.Day = 32
	long := fileOf("z", string(make([]byte, impl.TextMax+1)))
	for i, c := range []struct {
		got  editAnswer
		want int
	}{
		{answered(impl.ZipAdd(full, bad)), impl.EditForm},
		{answered(impl.ZipAdd(full, long)), impl.EditForm},
		{answered(impl.ZipAdd(full, fileOf("A", ""))), impl.EditForm},
		{answered(impl.ZipAdd(full, fileOf("a", ""))), impl.EditTwice},
		{answered(impl.ZipAdd(full, fileOf("dir/f", ""))), impl.EditTwice},
		{answered(impl.ZipAdd(full, fileOf("a/b", ""))), impl.EditTwice},
		{answered(impl.ZipAdd(full, fileOf("dir", ""))), impl.EditTwice},
		{answered(impl.ZipAdd(full, fileOf("dir/f/g", ""))), impl.EditTwice},
		{answered(impl.ZipAdd(full, fileOf("dir/g", ""))), impl.EditFull},
		{answered(impl.ZipAdd(full, fileOf("z", ""))), impl.EditFull},
		{answered(impl.ZipDrop(full, "A")), impl.EditNone},
		{answered(impl.ZipDrop(full, "")), impl.EditNone},
		{answered(impl.ZipDrop(full, "dir")), impl.EditNone},
		{answered(impl.ZipSwap(full, bad)), impl.EditForm},
		{answered(impl.ZipSwap(full, long)), impl.EditForm},
		{answered(impl.ZipSwap(full, fileOf("..", ""))), impl.EditForm},
		{answered(impl.ZipSwap(full, fileOf("z", ""))), impl.EditNone},
		{answered(impl.ZipSwap(full, fileOf("dir", ""))), impl.EditNone},
		{answered(impl.ZipMove(full, "z", "")), impl.EditForm},
		{answered(impl.ZipMove(full, "a", "../a")), impl.EditForm},
		{answered(impl.ZipMove(full, "a", "a/b/c/d/e")), impl.EditForm},
		{answered(impl.ZipMove(full, "A", "z")), impl.EditNone},
		{answered(impl.ZipMove(full, "z", "a")), impl.EditNone},
		{answered(impl.ZipMove(full, "z", "z")), impl.EditNone},
		{answered(impl.ZipMove(full, "dir", "dir/f")), impl.EditNone},
		{answered(impl.ZipMove(full, "a", "b")), impl.EditTwice},
		{answered(impl.ZipMove(full, "a", "b/a")), impl.EditTwice},
		{answered(impl.ZipMove(full, "a", "dir")), impl.EditTwice},
		{answered(impl.ZipMove(full, "a", "dir/f/g")), impl.EditTwice},
		{answered(impl.ZipJoin(full, impl.ZipPut(filesOf("z", "a")))), impl.EditFull},
		{answered(impl.ZipJoin(full, impl.ZipPut(filesOf("a", "z")))), impl.EditTwice},
		{answered(impl.ZipJoin(full, impl.ZipPut(filesOf("dir", "z")))), impl.EditTwice},
	} {
		if c.got.text != full || c.got.code != c.want {
			t.Errorf("%d: code %d, not %d; as it is: %v", i, c.got.code, c.want, c.got.text == full)
		}
	}
}

func TestP35AFileThatWasAddedIsTheLast(t *testing.T) {
	r := seeded(35)
	for range 80 {
		list := randomFiles(r, r.Intn(impl.ZipMax))
		archive, e := impl.ZipPut(list), randomFile(r)
		if clashesSlowly(list, e.Name) {
			continue
		}
		text, code := impl.ZipAdd(archive, e)
		if got, ok := impl.ZipGet(text); code != impl.EditFine || !ok || !same(got, append(slices.Clone(list), e)) {
			t.Fatalf("%v to %v: %d %v", e, list, code, got)
		}
		if back, code := impl.ZipDrop(text, e.Name); back != archive || code != impl.EditFine {
			t.Fatalf("%v to %v and out again: %d", e, list, code)
		}
	}
}

func TestP36AFileThatWasTakenOut(t *testing.T) {
	r := seeded(36)
	for range 40 {
		list := randomFiles(r, 1+r.Intn(impl.ZipMax))
		archive := impl.ZipPut(list)
		for place, e := range list {
			text, code := impl.ZipDrop(archive, e.Name)
			want := slices.Delete(slices.Clone(list), place, place+1)
			if got, ok := impl.ZipGet(text); code != impl.EditFine || !ok || !same(got, want) {
				t.Fatalf("%v out of %v: %d %v", e, list, code, got)
			}
			if _, ok := impl.ZipFind(text, e.Name); ok {
				t.Fatalf("%v is still there", e)
			}
			if again, code := impl.ZipDrop(text, e.Name); again != text || code != impl.EditNone {
				t.Fatalf("%v once more: %d", e, code)
			}
		}
	}
}

func TestP37AFileWithAnotherText(t *testing.T) {
	r := seeded(37)
	for range 40 {
		list := randomFiles(r, 1+r.Intn(impl.ZipMax))
		archive := impl.ZipPut(list)
		for place, e := range list {
			other := impl.Entry{Name: e.Name, At: randomStamp(r), Text: randomWords(r)}
			text, code := impl.ZipSwap(archive, other)
			want := slices.Clone(list)
			want[place] = other
			if got, ok := impl.ZipGet(text); code != impl.EditFine || !ok || !same(got, want) {
				t.Fatalf("%v into %v: %d %v", other, list, code, got)
			}
			if back, code := impl.ZipSwap(text, e); back != archive || code != impl.EditFine {
				t.Fatalf("%v into %v and back: %d", other, list, code)
			}
		}
	}
}

func TestP38AFileWithAnotherName(t *testing.T) {
	r := seeded(38)
	for range 40 {
		list := randomFiles(r, 1+r.Intn(impl.ZipMax))
		archive := impl.ZipPut(list)
		for place, e := range list {
			to := randomName(r)
			if clashesSlowly(list, to) {
				continue
			}
			text, code := impl.ZipMove(archive, e.Name, to)
			want := slices.Clone(list)
			want[place].Name = to
			if got, ok := impl.ZipGet(text); code != impl.EditFine || !ok || !same(got, want) {
				t.Fatalf("%q to %q in %v: %d %v", e.Name, to, list, code, got)
			}
			if said, ok := impl.ZipFind(text, to); said != e.Text || !ok {
				t.Fatalf("%q says %q, not %q", to, said, e.Text)
			}
			if _, ok := impl.ZipFind(text, e.Name); ok {
				t.Fatalf("%q is still there", e.Name)
			}
			if back, code := impl.ZipMove(text, to, e.Name); back != archive || code != impl.EditFine {
				t.Fatalf("%q to %q and back: %d", e.Name, to, code)
			}
		}
	}
}

// A file is moved to within its own name, and out of it: nothing else is there.
func TestP38ToWithinItsOwnName(t *testing.T) {
	archive := impl.ZipPut(filesOf("b", "a", "c"))
	text, code := impl.ZipMove(archive, "a", "a/b")
	if code != impl.EditFine || !same(impl.ZipNames(text), []string{"b", "a/b", "c"}) {
		t.Errorf("%d %v", code, impl.ZipNames(text))
	}
	if back, code := impl.ZipMove(text, "a/b", "a"); back != archive || code != impl.EditFine {
		t.Errorf("%d %v", code, impl.ZipNames(back))
	}
	two := impl.ZipPut(filesOf("a/b", "a/c"))
	if text, code := impl.ZipMove(two, "a/b", "a"); text != two || code != impl.EditTwice {
		t.Errorf("%d %v", code, impl.ZipNames(text))
	}
	if text, code := impl.ZipMove(two, "a/b", "a/c/d"); text != two || code != impl.EditTwice {
		t.Errorf("%d %v", code, impl.ZipNames(text))
	}
}

func TestP39TwoArchivesInOne(t *testing.T) {
	r := seeded(39)
	none := impl.ZipPut(nil)
	for range 60 {
		all := randomFiles(r, r.Intn(impl.ZipMax+1))
		cut := r.Intn(len(all) + 1)
		a, b := impl.ZipPut(all[:cut]), impl.ZipPut(all[cut:])
		text, code := impl.ZipJoin(a, b)
		if text != impl.ZipPut(all) || code != impl.EditFine {
			t.Fatalf("%v and %v: %d %v", impl.ZipNames(a), impl.ZipNames(b), code, impl.ZipNames(text))
		}
		if with, code := impl.ZipJoin(text, none); with != text || code != impl.EditFine {
			t.Fatalf("with none: %d %v", code, impl.ZipNames(with))
		}
		if with, code := impl.ZipJoin(none, text); with != text || code != impl.EditFine {
			t.Fatalf("to none: %d %v", code, impl.ZipNames(with))
		}
	}
}

func TestP40JoinedIsAddedOneByOne(t *testing.T) {
	r := seeded(40)
	seen := map[int]int{}
	for range 150 {
		a := impl.ZipPut(fewFiles(r, r.Intn(8)))
		more := fewFiles(r, r.Intn(8))
		want, code := a, impl.EditFine
		for _, e := range more {
			if want, code = impl.ZipAdd(want, e); code != impl.EditFine {
				want = a
				break
			}
		}
		if text, got := impl.ZipJoin(a, impl.ZipPut(more)); text != want || got != code {
			t.Fatalf("%v and %v: %d %v, not %d", impl.ZipNames(a), namesOf(more), got, impl.ZipNames(text), code)
		}
		seen[code]++
	}
	if seen[impl.EditFine] == 0 || seen[impl.EditTwice] == 0 || seen[impl.EditFull] == 0 {
		t.Errorf("%v", seen)
	}
}

func TestP41TwoFilesInEitherOrder(t *testing.T) {
	r := seeded(41)
	for range 60 {
		list := randomFiles(r, 2+r.Intn(impl.ZipMax-1))
		archive, e, f := impl.ZipPut(list[2:]), list[0], list[1]
		x, one := impl.ZipAdd(archive, e)
		x, two := impl.ZipAdd(x, f)
		y, three := impl.ZipAdd(archive, f)
		y, four := impl.ZipAdd(y, e)
		if one+two+three+four != 0 || len(x) != len(y) {
			t.Fatalf("%d %d %d %d; %d and %d bytes", one, two, three, four, len(x), len(y))
		}
		for _, text := range []string{x, y} {
			got, _ := impl.ZipGet(text)
			if len(got) != len(list) || !slices.Contains(got, e) || !slices.Contains(got, f) {
				t.Fatalf("%v and %v: %v", e, f, got)
			}
		}
	}
}

func TestP73AsManyFilesAsMayBe(t *testing.T) {
	r := seeded(73)
	for range 20 {
		list := randomFiles(r, impl.ZipMax)
		archive := impl.ZipPut(nil)
		for _, e := range list {
			next, code := impl.ZipAdd(archive, e)
			if code != impl.EditFine {
				t.Fatalf("%d files are full: %d", len(impl.ZipNames(archive)), code)
			}
			archive = next
		}
		e := randomFile(r)
		if clashesSlowly(list, e.Name) {
			continue
		}
		if text, code := impl.ZipAdd(archive, e); text != archive || code != impl.EditFull {
			t.Fatalf("one more: %d", code)
		}
		less, _ := impl.ZipDrop(archive, list[r.Intn(len(list))].Name)
		if _, code := impl.ZipAdd(less, e); code != impl.EditFine {
			t.Fatalf("one in the room of another one: %d", code)
		}
	}
}

func TestP74AllFilesTakenOut(t *testing.T) {
	r := seeded(74)
	for many := range impl.ZipMax + 1 {
		for range 5 {
			list := randomFiles(r, many)
			archive := oddZip(r, list)
			if many == 0 {
				archive = impl.ZipPut(nil)
			}
			for _, place := range r.Perm(many) {
				next, code := impl.ZipDrop(archive, list[place].Name)
				if code != impl.EditFine {
					t.Fatalf("%q: %d", list[place].Name, code)
				}
				archive = next
			}
			if archive != impl.ZipPut(nil) {
				t.Fatalf("%v: %q", namesOf(list), archive)
			}
		}
	}
}

func TestP93AFileThatIsGivenItsOwnName(t *testing.T) {
	r := seeded(93)
	for range 30 {
		list := randomFiles(r, 1+r.Intn(impl.ZipMax))
		archive := impl.ZipPut(list)
		for _, e := range list {
			for _, f := range list {
				text, code := impl.ZipMove(archive, e.Name, f.Name)
				if want := map[bool]int{true: impl.EditFine, false: impl.EditTwice}[e == f]; text != archive || code != want {
					t.Fatalf("%q to %q: %d", e.Name, f.Name, code)
				}
			}
		}
	}
}

func TestP94AnArchiveIsNotJoinedToItself(t *testing.T) {
	r := seeded(94)
	for many := range impl.ZipMax + 1 {
		for range 5 {
			archive := impl.ZipPut(randomFiles(r, many))
			want := impl.EditTwice
			if many == 0 {
				want = impl.EditFine
			}
			if text, code := impl.ZipJoin(archive, archive); text != archive || code != want {
				t.Fatalf("%d files: %d", many, code)
			}
		}
	}
}

// An archive whose files are packed otherwise is written anew by a deed, and stays as it is beside a code.
func TestDeedsToFilesPackedOtherwise(t *testing.T) {
	long := fileOf("a", "stone stone stone stone stone stone")
	list := []impl.Entry{long, fileOf("b", "x")}
	archive := freeZipOf([]freeHead{freeOf(long, 0, long.Text), freeOf(list[1], 8, impl.OwnPut("x"))}).text()
	if archive == impl.ZipPut(list) || checkZip(t, archive) != "" {
		t.Fatal("it is no such archive")
	}
	text, code := impl.ZipSwap(archive, long)
	checkEdit(t, archive, text, code, list, impl.EditFine)
	text, code = impl.ZipMove(archive, "a", "a")
	checkEdit(t, archive, text, code, list, impl.EditFine)
	text, code = impl.ZipJoin(archive, impl.ZipPut(nil))
	checkEdit(t, archive, text, code, list, impl.EditFine)
	text, code = impl.ZipAdd(archive, fileOf("c", ""))
	checkEdit(t, archive, text, code, append(slices.Clone(list), fileOf("c", "")), impl.EditFine)
	text, code = impl.ZipDrop(archive, "c")
	checkEdit(t, archive, text, code, nil, impl.EditNone)
	text, code = impl.ZipAdd(archive, long)
	checkEdit(t, archive, text, code, nil, impl.EditTwice)
}
