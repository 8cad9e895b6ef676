package tests

import (
	"runtime"
	"slices"
	"strconv"
	"strings"
	"sync"
	"testing"
	"time"

	"loop.example/corbel/impl"
)

// checkTree holds TreeOk against what the document says.
func checkTree(t *testing.T, tree []impl.File, want bool) {
	t.Helper()
	if slow := treeSlowly(tree); slow != want {
		t.Fatalf("%v: %v is not what the document says", tree, want)
	}
	if impl.TreeOk(tree) != want {
		t.Fatalf("%v: not %v", tree, want)
	}
}

// checkTake holds TreeTake against what the document says; and is its code.
func checkTake(t *testing.T, tree []impl.File, text string) int {
	t.Helper()
	want, may := takeSlowly(tree, text)
	got, code := impl.TreeTake(tree, text)
	if !same(got, want) || code != may {
		t.Fatalf("TreeTake %v %v: %v %d, not %v %d", tree, impl.ZipNames(text), got, code, want, may)
	}
	return code
}

// checkTreeZip holds TreeZip against what the document says; and is its code.
func checkTreeZip(t *testing.T, tree []impl.File, place string, at impl.Stamp) int {
	t.Helper()
	want, may := treeZipSlowly(tree, place, at)
	got, code := impl.TreeZip(tree, place, at)
	if got != want || code != may {
		t.Fatalf("TreeZip %v %q %v: %q %d, not %q %d", tree, place, at, got, code, want, may)
	}
	return code
}

// checkSession holds Session against what the document says.
func checkSession(t *testing.T, lines []string) string {
	t.Helper()
	want := sessionSlowly(lines)
	told := impl.Session(lines)
	if told != want {
		t.Fatalf("Session %q: %q, not %q", lines, told, want)
	}
	return told
}

func TestTreesThatAreOnes(t *testing.T) {
	for _, tree := range [][]impl.File{
		nil, treeOf("a"), treeOf("a", "b"), treeOf("a", "a-b", "a.b", "ab"), treeOf("a-b", "a.b", "a/b", "a0", "ab"), treeOf("dir-x", "dir.x", "dir/x", "dira"), fullTree(),
		treeOf("a/b/c/d", "a/b/c/e", "tenletters/tenletters/tenletters/tenletters"),
		{{Path: "a"}}, {{Path: "a", Text: strings.Repeat("q", impl.TextMax)}, {Path: "b", Text: "\x00\n\xff"}},
	} {
		checkTree(t, tree, true)
	}
}

func TestTreesThatAreNone(t *testing.T) {
	long := strings.Repeat("q", impl.TextMax+1)
	for _, tree := range [][]impl.File{
		treeOf("b", "a"), treeOf("a", "c", "b"), treeOf("ab", "a"), treeOf("a", "a"), treeOf("a", "b", "b"), treeOf("a/b", "a-b"), treeOf("a/b", "a.b"),
		treeOf("a", "a/b"), treeOf("a/b", "a"), treeOf("a", "a-b", "a/b"), treeOf("a", "a-b", "a.b", "a/b/c"), treeOf("a/b", "a/b/c"), treeOf("a/b", "a/b-c", "a/b.c", "a/b/c"),
		treeOf("a", "b", "c", "d", "e", "f", "g", "h", "i"),
		{{Path: "a", Text: long}}, {{Path: "a"}, {Path: "b", Text: long}}, {{}},
	} {
		checkTree(t, tree, false)
	}
	for _, name := range badNames() {
		checkTree(t, treeOf(name), false)
		checkTree(t, []impl.File{{Path: name}, {Path: "zzz"}}, false)
	}
}

func TestTreesOfAnyPaths(t *testing.T) {
	r := seeded(10)
	seen := map[bool]int{}
	for range 20000 {
		var tree []impl.File
		for range r.Intn(6) {
			tree = append(tree, impl.File{Path: someFew[r.Intn(16)]})
		}
		if r.Intn(4) > 0 {
			slices.SortFunc(tree, func(a impl.File, b impl.File) int { return strings.Compare(a.Path, b.Path) })
		}
		ok := treeSlowly(tree)
		checkTree(t, tree, ok)
		seen[ok]++
	}
	if seen[true] < 1000 || seen[false] < 1000 {
		t.Errorf("%v", seen)
	}
}

func TestP96ATreeWithoutOneFile(t *testing.T) {
	r := seeded(96)
	trees := [][]impl.File{fullTree(), treeOf("a"), treeOf("a-b", "a.b", "a/b", "ab")}
	for range 200 {
		trees = append(trees, fewTree(r, 12))
	}
	for _, tree := range trees {
		checkTree(t, tree, true)
		for i := range tree {
			checkTree(t, slices.Delete(slices.Clone(tree), i, i+1), true)
		}
	}
}

func TestP46AllFilesAreTakenOut(t *testing.T) {
	r := seeded(46)
	seen := map[int]int{}
	for range 600 {
		tree, files := fewTree(r, r.Intn(20)), fewFiles(r, r.Intn(8))
		text := oddZip(r, files)
		code := checkTake(t, tree, text)
		seen[code]++
		taken, _ := impl.TreeTake(tree, text)
		if code != impl.EditFine {
			if !same(taken, tree) {
				t.Fatalf("%v with %v: %d, but %v", tree, files, code, taken)
			}
			continue
		}
		checkTree(t, taken, true)
		for _, e := range files {
			if !slices.Contains(taken, impl.File{Path: e.Name, Text: e.Text}) {
				t.Fatalf("%v with %v: %v", tree, files, taken)
			}
		}
		for _, f := range tree {
			if placeSlowly(files, f.Path) < 0 && !slices.Contains(taken, f) {
				t.Fatalf("%v with %v: %v", tree, files, taken)
			}
		}
		if again, code := impl.TreeTake(taken, text); !same(again, taken) || code != impl.EditFine {
			t.Fatalf("%v with %v: %v, and again %v", tree, files, taken, again)
		}
	}
	if seen[impl.EditFine] == 0 || seen[impl.EditTwice] == 0 || seen[impl.EditFull] == 0 {
		t.Errorf("%v", seen)
	}
}

// An archive's order is not that of a tree.
func TestP46TakenOutByPath(t *testing.T) {
	text := impl.ZipPut(filesOf("z", "a/b", "m", "a-b", "a.b", "a0"))
	got, code := impl.TreeTake(treeOf("b", "y"), text)
	var paths []string
	for _, f := range got {
		paths = append(paths, f.Path)
	}
	if code != impl.EditFine || !same(paths, []string{"a-b", "a.b", "a/b", "a0", "b", "m", "y", "z"}) {
		t.Errorf("%d %v", code, paths)
	}
	checkTake(t, treeOf("b", "y"), text)
}

func TestP46WhatIsNoTreeOrNoArchive(t *testing.T) {
	archive := impl.ZipPut(filesOf("a"))
	bad := [][]impl.File{treeOf("b", "a"), treeOf("a", "a"), treeOf("a", "a/b"), treeOf("A"), treeOf(""), treeOf("a", "b", "c", "d", "e", "f", "g", "h", "i"), {{Path: "a", Text: strings.Repeat("q", impl.TextMax+1)}}}
	for _, tree := range bad {
		for _, text := range append(noArchives(), archive, impl.ZipPut(nil)) {
			if got, code := impl.TreeTake(tree, text); len(got) != 0 || code != impl.EditForm {
				t.Errorf("%v %q: %v %d", tree, text, got, code)
			}
		}
	}
	for _, none := range noArchives() {
		for _, tree := range [][]impl.File{nil, treeOf("a"), fullTree()} {
			if got, code := impl.TreeTake(tree, none); len(got) != 0 || code != impl.EditForm {
				t.Errorf("%v %q: %v %d", tree, none, got, code)
			}
		}
	}
}

// As many files as may be, and one more; one that is there already takes no more room.
func TestTreesThatAreFull(t *testing.T) {
	full := fullTree()
	for _, c := range []struct {
		tree  []impl.File
		names []string
		want  int
	}{
		{full, nil, impl.EditFine},
		{full, []string{"a"}, impl.EditFine},
		{full, []string{"z", "dir/d/e", "a"}, impl.EditFine},
		{full, []string{"b"}, impl.EditFull},
		{full, []string{"a", "b"}, impl.EditFull},
		{full, []string{"dir"}, impl.EditFull},
		{full, []string{"a/b"}, impl.EditFull},
		{full[1:], []string{"b"}, impl.EditFine},
		{full[1:], []string{"dir"}, impl.EditTwice},
		{full[1:], []string{"dir/d"}, impl.EditTwice},
		{full[1:], []string{"z/a"}, impl.EditTwice},
		{full[1:], []string{"b", "c"}, impl.EditFull},
		{full[1:], []string{"b", "z/a"}, impl.EditFull},
		{full[2:], []string{"b", "z/a"}, impl.EditTwice},
		{full[2:], []string{"b", "c"}, impl.EditFine},
		{full[:2], []string{"b", "c", "d", "e", "f", "g"}, impl.EditFine},
		{full[:3], []string{"b", "c", "d", "e", "f", "g"}, impl.EditFull},
		{nil, []string{"b", "c", "d", "e", "f", "g"}, impl.EditFine},
	} {
		if code := checkTake(t, c.tree, impl.ZipPut(filesOf(c.names...))); code != c.want {
			t.Errorf("%v with %v: %d, not %d", c.tree, c.names, code, c.want)
		}
	}
}

// A file in the place of a dir, and a dir in the place of a file.
func TestP97AFileInThePlaceOfADir(t *testing.T) {
	for _, c := range []struct {
		paths []string
		names []string
	}{
		{[]string{"dir/b"}, []string{"dir"}},
		{[]string{"dir"}, []string{"dir/b"}},
		{[]string{"dir/b", "z"}, []string{"a", "dir"}},
		{[]string{"a", "dir", "z"}, []string{"a", "b", "dir/b/c/d"}},
		{[]string{"a", "a-b", "a.b"}, []string{"a/b"}},
		{[]string{"a-b", "a.b", "a/b"}, []string{"a"}},
		{[]string{"a/b/c"}, []string{"a/b"}},
		{[]string{"a/b"}, []string{"a/b/c"}},
		{[]string{"a/b/c/d"}, []string{"z", "a", "y"}},
	} {
		tree, text := treeOf(c.paths...), impl.ZipPut(filesOf(c.names...))
		if got, code := impl.TreeTake(tree, text); !same(got, tree) || code != impl.EditTwice {
			t.Errorf("%v with %v: %v %d", c.paths, c.names, got, code)
		}
		checkTake(t, tree, text)
	}
	if code := checkTake(t, treeOf("dir-b", "dir.b", "dira"), impl.ZipPut(filesOf("dir"))); code != impl.EditFine {
		t.Errorf("beside it: %d", code)
	}
}

func TestP47FilesOfAPlaceAreTakenOutAgain(t *testing.T) {
	r := seeded(47)
	seen := map[int]int{}
	for range 300 {
		tree, at := fewTree(r, 20), randomStamp(r)
		for _, place := range []string{"", "a", "a/b", "b", "dir", "ab", "g", someName(r), randomName(r)} {
			code := checkTreeZip(t, tree, place, at)
			seen[code]++
			if code != impl.EditFine {
				continue
			}
			text, _ := impl.TreeZip(tree, place, at)
			want := placeFiles(tree, place)
			if got, code := impl.TreeTake(nil, text); !same(got, want) || code != impl.EditFine {
				t.Fatalf("%q of %v: %v %d", place, tree, got, code)
			}
			if files, ok := impl.ZipGet(text); !ok || !same(files, madeAt(want, at)) || text != impl.ZipPut(files) {
				t.Fatalf("%q of %v: %v", place, tree, files)
			}
		}
	}
	if seen[impl.EditFine] == 0 || seen[impl.EditForm] == 0 || seen[impl.EditFull] == 0 {
		t.Errorf("%v", seen)
	}
}

// A place is a file, or a dir, not the beginning of a name.
func TestP47PlacesOfATree(t *testing.T) {
	tree := treeOf("dir-x", "dir.x", "dir/a", "dir/b/c", "dir/bb", "dira")
	for place, want := range map[string][]string{
		"": {"dir-x", "dir.x", "dir/a", "dir/b/c", "dir/bb", "dira"}, "dir": {"dir/a", "dir/b/c", "dir/bb"}, "dir/b": {"dir/b/c"}, "dir/b/c": {"dir/b/c"}, "dir/bb": {"dir/bb"}, "dir.x": {"dir.x"}, "dira": {"dira"},
		"di": nil, "d": nil, "dir/b/c/d": nil, "dir/c": nil, "b": nil, "a": nil,
	} {
		text, code := impl.TreeZip(tree, place, noon)
		if code != impl.EditFine || !same(impl.ZipNames(text), want) {
			t.Errorf("%q: %v %d, not %v", place, impl.ZipNames(text), code, want)
		}
		checkTreeZip(t, tree, place, noon)
	}
}

func TestP47WhatIsNotOkIsNotPacked(t *testing.T) {
	tree := treeOf("a", "b")
	for _, place := range badNames() {
		want := impl.EditForm
		if place == "" {
			want = impl.EditFine
		}
		if code := checkTreeZip(t, tree, place, noon); code != want {
			t.Errorf("%q: %d", place, code)
		}
	}
	for _, at := range badStamps() {
		for _, place := range []string{"", "a", "z", ".."} {
			if code := checkTreeZip(t, tree, place, at); code != impl.EditForm {
				t.Errorf("%v: %d", at, code)
			}
		}
	}
	for _, bad := range [][]impl.File{treeOf("b", "a"), treeOf("a", "a"), treeOf("a", "a/b"), treeOf("A"), treeOf("a", "b", "c", "d", "e", "f", "g", "h", "i"), {{Path: "a", Text: strings.Repeat("q", impl.TextMax+1)}}} {
		for _, place := range []string{"", "a", "z"} {
			if code := checkTreeZip(t, bad, place, noon); code != impl.EditForm {
				t.Errorf("%v: %d", bad, code)
			}
		}
	}
}

// An archive has room for fewer files than a tree.
func TestPlacesThatAreTooFull(t *testing.T) {
	full := fullTree()
	for _, c := range []struct {
		tree  []impl.File
		place string
		want  int
	}{
		{full, "", impl.EditFull}, {full[1:], "", impl.EditFull}, {full[2:], "", impl.EditFine}, {full, "dir", impl.EditFine}, {full, "dir/d", impl.EditFine}, {full, "a", impl.EditFine}, {full, "none", impl.EditFine},
		{treeOf("d/a", "d/b", "d/c", "d/d", "d/e", "d/f", "d/g"), "d", impl.EditFull}, {treeOf("d/a", "d/b", "d/c", "d/d", "d/e", "d/f", "e/g"), "d", impl.EditFine},
	} {
		if code := checkTreeZip(t, c.tree, c.place, noon); code != c.want {
			t.Errorf("%q of %v: %d, not %d", c.place, c.tree, code, c.want)
		}
	}
}

func TestP48TakenOutOverTheTree(t *testing.T) {
	r := seeded(48)
	trees := [][]impl.File{nil, fullTree()}
	for range 200 {
		trees = append(trees, fewTree(r, 20))
	}
	for _, tree := range trees {
		for _, place := range []string{"", "a", "a/b", "dir", "dir/d", "b", "none", randomName(r)} {
			text, code := impl.TreeZip(tree, place, randomStamp(r))
			if code == impl.EditFull {
				continue
			}
			if got, code := impl.TreeTake(tree, text); !same(got, tree) || code != impl.EditFine {
				t.Fatalf("%q of %v: %v %d", place, tree, got, code)
			}
		}
	}
}

// The longest texts of all kinds, of as many files as may be.
func TestP48TreesOfAnyTexts(t *testing.T) {
	r := seeded(480)
	for range 30 {
		files := randomFiles(r, impl.ZipMax)
		tree, code := impl.TreeTake(nil, impl.ZipPut(files))
		if code != impl.EditFine || len(tree) != impl.ZipMax {
			t.Fatalf("%v: %v %d", files, tree, code)
		}
		if code := checkTreeZip(t, tree, "", randomStamp(r)); code != impl.EditFine {
			t.Fatalf("%v: %d", tree, code)
		}
	}
}

func TestP98AnArchiveWithoutFiles(t *testing.T) {
	none := impl.ZipPut(nil)
	for _, tree := range [][]impl.File{nil, treeOf("a"), treeOf("a", "dir/b"), fullTree()} {
		if got, code := impl.TreeTake(tree, none); !same(got, tree) || code != impl.EditFine {
			t.Errorf("%v: %v %d", tree, got, code)
		}
		for _, place := range []string{"none", "di", "dir/none", "a/b"} {
			if text, code := impl.TreeZip(tree, place, noon); text != none || code != impl.EditFine {
				t.Errorf("%q of %v: %q %d", place, tree, text, code)
			}
		}
	}
	if text, code := impl.TreeZip(nil, "", noon); text != none || code != impl.EditFine {
		t.Errorf("%q %d", text, code)
	}
}

// However goroutines run, an archive is the same, and none of them is left.
func TestGoroutinesAreNotSeen(t *testing.T) {
	tree := fullTree()[2:]
	want, _ := treeZipSlowly(tree, "", noon)
	before := runtime.NumGoroutine()
	var callers sync.WaitGroup
	for range 8 {
		callers.Go(func() {
			for range 40 {
				if text, code := impl.TreeZip(tree, "", noon); text != want || code != impl.EditFine {
					t.Errorf("%q %d", text, code)
				}
			}
		})
	}
	callers.Wait()
	// The last one may have done its work, but not yet be gone.
	for range 200 {
		if runtime.NumGoroutine() <= before {
			return
		}
		time.Sleep(5 * time.Millisecond)
	}
	t.Errorf("%d goroutines, not %d", runtime.NumGoroutine(), before)
}

func TestSessionOfTheDocument(t *testing.T) {
	lines := strings.Split("list|long|add a some text|list|get a|long|add dir/b aaaaaaaaaaaaaaaaaaaa|long|add dir x|swap a other|get a|move a b|list|drop a|add A x|sum abc|kind a|kind aaaaaaaaaaaaaaaaaaaa|what|drop b|get b", "|")
	want := strings.ReplaceAll("22|fine|a 9|some text|109|fine|199|twice|fine|other|fine|b 5|dir/b 20|none|form|891568578 38600999|fixed 3|fixed 4|what|fine|none|", "|", "\n")
	if told := checkSession(t, lines); told != want {
		t.Errorf("%q", told)
	}
}

// Line by line what is told of it alone, or behind another one.
func TestLinesOfASession(t *testing.T) {
	long := strings.Repeat("q", impl.TextMax)
	for _, c := range []struct {
		lines string
		want  string
	}{
		{"list", ""}, {"long", "22|"}, {"", "what|"}, {" ", "what|"}, {"  ", "what|"}, {"what", "what|"}, {"list ", "what|"}, {" list", "what|"}, {"list a", "what|"}, {"long ", "what|"}, {"LIST", "what|"}, {"lists", "what|"}, {"lis", "what|"}, {"list\n", "what|"},
		{"add", "what|"}, {"add a", "what|"}, {"add ", "what|"}, {"add a ", "fine|"}, {"add a |list|get a", "fine|a 0||"}, {"add a  |list|get a", "fine|a 1| |"}, {"add a b c  d |get a", "fine|b c  d |"}, {"add  a", "form|"}, {"add  ", "form|"}, {"add A a", "form|"}, {"add .. a", "form|"}, {"add a/ a", "form|"}, {"add\ta b", "what|"}, {"add a\tb", "what|"}, {"add a\t b", "form|"}, {"ADD a b", "what|"}, {"adds a b", "what|"},
		{"add a x|add a y|get a", "fine|twice|x|"}, {"add a x|add a/b y|list", "fine|twice|a 1|"}, {"add a/b x|add a y|list", "fine|twice|a/b 1|"}, {"add a/b/c/d x", "fine|"}, {"add a/b/c/d/e x", "form|"}, {"add tenletters x", "fine|"}, {"add elevenlette x", "form|"},
		{"add a " + long + "|list", "fine|a 300|"}, {"add a " + long + "q|list", "form|"}, {"add a x|swap a " + long + "q|get a", "fine|form|x|"},
		{"add a 1|add b 2|add c 3|add d 4|add e 5|add f 6|add g 7|add a 8|add a/b 9|list", "fine|fine|fine|fine|fine|fine|full|twice|twice|a 1|b 1|c 1|d 1|e 1|f 1|"},
		{"swap", "what|"}, {"swap a", "what|"}, {"swap a b", "none|"}, {"swap A b", "form|"}, {"swap  b", "form|"}, {"add a x|swap a |list", "fine|fine|a 0|"}, {"add a x|add b y|swap a p q|list|get a", "fine|fine|fine|a 3|b 1|p q|"},
		{"move", "what|"}, {"move a", "what|"}, {"move a b", "none|"}, {"move a B", "form|"}, {"move a ", "form|"}, {"add a x|move a b c|list", "fine|form|a 1|"}, {"add a x|move a  b", "fine|form|"}, {"add a x|move  b", "fine|none|"}, {"add a x|add b y|move a b|list", "fine|fine|twice|a 1|b 1|"}, {"add a x|add b y|move a b/c", "fine|fine|twice|"}, {"add a x|add b y|move a c|list|get c|get a", "fine|fine|fine|c 1|b 1|x|none|"}, {"add a x|move a a", "fine|fine|"},
		{"drop", "what|"}, {"drop ", "none|"}, {"drop a", "none|"}, {"drop A", "none|"}, {"drop a b", "what|"}, {"drop a ", "what|"}, {"add a x|drop a |list", "fine|what|a 1|"}, {"add a x|drop a|list|long", "fine|fine|22|"}, {"add dir/a x|drop dir|list", "fine|none|dir/a 1|"},
		{"get", "what|"}, {"get ", "none|"}, {"get a", "none|"}, {"get a b", "what|"}, {"add a x|get a |get A|get a", "fine|what|none|x|"}, {"add a none|get a", "fine|none|"},
		{"sum", "what|"}, {"sum ", "0 1|"}, {"sum a b", "what|"}, {"sum a ", "what|"}, {"sum 123456789", "3421780262 152961502|"}, {"sum Wikipedia", "2913648686 300286872|"},
		{"kind", "what|"}, {"kind ", "fixed 2|"}, {"kind a b", "what|"}, {"kind a ", "what|"}, {"kind " + long, "fixed 12|"}, {"kind " + long + "q", "what|"}, {"kind \x80", "fixed 3|"},
	} {
		told := checkSession(t, strings.Split(c.lines, "|"))
		if want := strings.ReplaceAll(c.want, "|", "\n"); told != want {
			t.Errorf("%q: %q, not %q", c.lines, told, want)
		}
	}
}

// Lines with any bytes, and texts of each kind.
func TestLinesOfAnyBytes(t *testing.T) {
	if told := checkSession(t, []string{"add a one\ntwo", "get a", "list", "add b \x00\xff", "get b", "sum \n", "add \n x", "drop a\n"}); told != "fine\none\ntwo\na 7\nfine\n\x00\xff\n"+sessionSlowly([]string{"sum \n"})+"form\nnone\n" {
		t.Errorf("%q", told)
	}
	r := seeded(101)
	seen := map[string]int{}
	for range 60 {
		for _, text := range []string{randomText(r, r.Intn(impl.TextMax+3)), woundText(r, 1+r.Intn(impl.TextMax)), skewText(r, r.Intn(impl.TextMax+1)), steepText()} {
			word := strings.ReplaceAll(text, " ", "_")
			told := checkSession(t, []string{"kind " + word, "sum " + word, "add a " + text, "get a", "long", "list"})
			seen[strings.Fields(told)[0]]++
		}
	}
	for _, word := range []string{"store", "fixed", "own"} {
		if seen[word] == 0 {
			t.Errorf("never %s: %v", word, seen)
		}
	}
}

func TestSessionsOfAnyLines(t *testing.T) {
	r := seeded(102)
	for range 400 {
		checkSession(t, randomLines(r, r.Intn(31)))
	}
}

// Thirty lines are done, and none behind them.
func TestSessionsOfManyLines(t *testing.T) {
	for many := 28; many < 34; many++ {
		want := strings.Repeat("22\n", min(many, 30))
		if told := checkSession(t, repeated("long", many)); told != want {
			t.Errorf("%d lines: %d bytes, not %d", many, len(told), len(want))
		}
	}
	if told := impl.Session(append(repeated("list", 29), "long", "long", "add a b")); told != "22\n" {
		t.Errorf("%q", told)
	}
	if told := impl.Session(nil); told != "" {
		t.Errorf("%q", told)
	}
}

func TestP49WhatWasToldOfTheFirstLines(t *testing.T) {
	r := seeded(49)
	for range 60 {
		lines := randomLines(r, r.Intn(36))
		all := checkSession(t, lines)
		told := ""
		for many := range len(lines) + 1 {
			next := impl.Session(lines[:many])
			if !strings.HasPrefix(next, told) || !strings.HasPrefix(all, next) {
				t.Fatalf("%q: %q, then %q, at last %q", lines[:many], told, next, all)
			}
			told = next
		}
	}
}

func TestP50WhoOnlyLooks(t *testing.T) {
	r := seeded(50)
	for range 300 {
		ahead, behind := randomLines(r, r.Intn(12)), randomLines(r, 1+r.Intn(10))
		var looks []string
		for range 1 + r.Intn(8) {
			looks = append(looks, randomLook(r))
		}
		without := strings.TrimPrefix(impl.Session(slices.Concat(ahead, behind)), impl.Session(ahead))
		with := strings.TrimPrefix(checkSession(t, slices.Concat(ahead, looks, behind)), impl.Session(slices.Concat(ahead, looks)))
		if with != without {
			t.Fatalf("%q, %q, %q: %q, not %q", ahead, looks, behind, with, without)
		}
	}
}

// lastLine is what the last of some lines tells.
func lastLine(lines []string) string {
	return strings.TrimPrefix(impl.Session(lines), impl.Session(lines[:len(lines)-1]))
}

func TestP99WhatWasAddedIsGot(t *testing.T) {
	r := seeded(99)
	seen := map[string]int{}
	for range 300 {
		lines := randomLines(r, r.Intn(20))
		name, text := someName(r), randomWords(r)
		lines = append(lines, "add "+name+" "+text)
		word := lastLine(lines)
		seen[word]++
		if told := lastLine(append(slices.Clone(lines), "get "+name)); word == "fine\n" && told != text+"\n" {
			t.Fatalf("%q: %q, not %q", lines, told, text)
		}
	}
	if seen["fine\n"] < 50 || seen["twice\n"] == 0 || seen["form\n"] == 0 {
		t.Errorf("%v", seen)
	}
	for many := range impl.ZipMax {
		var lines []string
		for i := range many {
			lines = append(lines, "add f"+strconv.Itoa(i)+" text")
		}
		lines = append(lines, "add new more text", "get new")
		if told := lastLine(lines); told != "more text\n" {
			t.Errorf("%q: %q", lines, told)
		}
	}
}

func TestP100AsLongAsItsFiles(t *testing.T) {
	r := seeded(100)
	fine := 0
	for range 300 {
		lines := randomLines(r, r.Intn(20))
		name, text := someName(r), randomWords(r)
		was := lastLine(append(slices.Clone(lines), "long"))
		lines = append(lines, "add "+name+" "+text)
		if lastLine(lines) != "fine\n" {
			if told := lastLine(append(slices.Clone(lines), "long")); told != was {
				t.Fatalf("%q: %q, not %q", lines, told, was)
			}
			continue
		}
		fine++
		if told := lastLine(append(slices.Clone(lines), "long")); told == was {
			t.Fatalf("%q: %q as ahead", lines, told)
		}
		lines = append(lines, "drop "+name)
		if lastLine(lines) != "fine\n" {
			t.Fatalf("%q", lines)
		}
		if told := lastLine(append(slices.Clone(lines), "long")); told != was {
			t.Fatalf("%q: %q, not %q", lines, told, was)
		}
	}
	if fine < 50 {
		t.Errorf("%d were fine", fine)
	}
}
