package tests

import (
	"testing"
	"unsafe"

	"loop.example/corbel/impl"
)

// Arguments stay as they are, the room behind their end too, while functions run and when their answers are written over.
func TestArgumentsStayAsTheyAre(t *testing.T) {
	pieces, piecesStay := guarded(t, randomPieces(seeded(100), 20), impl.Piece{Num: -7, Bits: -7})
	bits, bitsStay := guarded(t, bitsOf(pieces), -7)
	text := impl.BitsPut(pieces)
	impl.BitsLong(pieces)
	nums, _ := impl.BitsGet(text, bits)
	scribble(nums, -9)
	piecesStay("BitsPut")
	bitsStay("BitsGet")

	lens, lensStay := guarded(t, stairs(impl.LenMax), 1)
	list, listStay := guarded(t, randomSymbols(seeded(101), lens, 30), 2)
	impl.LensOk(lens)
	codes := impl.CodesOf(lens)
	put := impl.SymbolsPut(lens, list)
	got, _ := impl.SymbolsGet(lens, impl.BitsPut(put), len(list))
	scribble(codes, -9)
	scribble(put, impl.Piece{Num: -9, Bits: -9})
	scribble(got, -9)
	lensStay("CodesOf, SymbolsPut or SymbolsGet")
	listStay("SymbolsPut")

	for _, c := range [][]int{{5}, {0, 5}, {1, 1, 2, 4, 8, 16}, {1, 1, 2, 3, 5, 8, 13, 21}} {
		counts, countsStay := guarded(t, c, 3)
		for most := 1; most <= impl.LenMax; most++ {
			scribble(impl.LensOf(counts, most), -9)
		}
		countsStay("LensOf")
	}
}

// Tokens that are handed in stay as they are, also those behind a fault, and those of an answer are its own.
func TestTokensStayAsTheyAre(t *testing.T) {
	mark := impl.Token{Byte: -7, Long: -7, Back: -7}
	for _, list := range [][]impl.Token{impl.TokensOf("stone stone stone"), {{Byte: 'a'}, {Long: 60, Back: 1}}, {{Byte: 'a'}, {Long: 3, Back: 2}, {Byte: 'b'}}, {{Byte: 256}}} {
		tokens, stay := guarded(t, list, mark)
		impl.TokensText(tokens)
		impl.TokensOk(tokens)
		impl.TokensLong(tokens)
		stay("TokensText, TokensOk or TokensLong")
	}
	want := tokensSlowly("stone stone stone")
	for range 3 {
		list := impl.TokensOf("stone stone stone")
		if !same(list, want) {
			t.Fatalf("%v, not %v", list, want)
		}
		scribble(list, mark)
	}
}

// An answer is the same in each call, whatever was done to the one ahead.
func TestNothingIsKept(t *testing.T) {
	counts := []int{5, 9, 12, 13, 16, 45}
	first := impl.LensOf(counts, impl.LenMax)
	want := append([]int(nil), first...)
	codes := append([]int(nil), impl.CodesOf(want)...)
	for range 3 {
		scribble(first, -9)
		scribble(impl.CodesOf(want), -9)
		first = impl.LensOf(counts, impl.LenMax)
		if !same(first, want) || !same(impl.CodesOf(want), codes) {
			t.Fatalf("%v, not %v", first, want)
		}
	}
}

// apartFrom asks that a text shares no memory with another one.
func apartFrom(t *testing.T, answer string, argument string, name string) {
	t.Helper()
	if answer == "" || argument == "" {
		return
	}
	a, b := uintptr(unsafe.Pointer(unsafe.StringData(answer))), uintptr(unsafe.Pointer(unsafe.StringData(argument)))
	if a < b+uintptr(len(argument)) && b < a+uintptr(len(answer)) {
		t.Errorf("%s answers memory of its argument", name)
	}
}

// Files that are handed in stay as they are, also those that make no archive.
func TestFilesStayAsTheyAre(t *testing.T) {
	mark := impl.Entry{Name: "mark", Text: "mark"}
	for _, list := range [][]impl.Entry{nil, filesOf("a", "dir/b", "c"), filesOf("a", "a/b"), filesOf("a", "A"), filesOf("a", "b", "c", "d", "e", "f", "g")} {
		files, stay := guarded(t, list, mark)
		impl.ZipOk(files)
		impl.ZipPut(files)
		stay("ZipOk or ZipPut")
	}
}

// Files and names that are read are the reader's own: what is done to them is in no other answer.
func TestFilesThatAreReadAreNew(t *testing.T) {
	want := filesOf("a", "dir/b", "c")
	want[0].Text = "x"
	local, archive := impl.LocalPut(want[0]), impl.ZipPut(want)
	for range 3 {
		e, _, _ := impl.LocalGet(local)
		apartFrom(t, e.Name, local, "LocalGet")
		apartFrom(t, e.Text, local, "LocalGet")
		list, _ := impl.ZipGet(archive)
		names := impl.ZipNames(archive)
		if !same(list, want) || !same(names, namesOf(want)) {
			t.Fatalf("%v %v", list, names)
		}
		for i, e := range list {
			said, _ := impl.ZipFind(archive, e.Name)
			apartFrom(t, said, archive, "ZipFind")
			apartFrom(t, e.Name, archive, "ZipGet")
			apartFrom(t, e.Text, archive, "ZipGet")
			apartFrom(t, names[i], archive, "ZipNames")
		}
		scribble(list, impl.Entry{})
		scribble(names, "")
	}
}

// What stays as it is is new all the same.
func TestArchivesThatStayAreNew(t *testing.T) {
	archive := impl.ZipPut(filesOf("a", "b"))
	for _, got := range []editAnswer{
		answered(impl.ZipAdd(archive, fileOf("a", ""))),
		answered(impl.ZipDrop(archive, "z")),
		answered(impl.ZipSwap(archive, fileOf("z", ""))),
		answered(impl.ZipMove(archive, "a", "b")),
		answered(impl.ZipMove(archive, "a", "a")),
		answered(impl.ZipJoin(archive, archive)),
		answered(impl.ZipJoin(archive, impl.ZipPut(nil))),
	} {
		if got.text != archive {
			t.Errorf("%d %q", got.code, got.text)
		}
		apartFrom(t, got.text, archive, "a deed")
	}
}

// Disks and trees that are handed in stay as they are, and what is answered is new, also what is as it was.
func TestDisksAndTreesAreNew(t *testing.T) {
	archive, other := impl.ZipPut(filesOf("a", "b")), impl.ZipPut(filesOf("c"))
	torn := impl.DiskTear(impl.Disk{Text: archive}, other, 1000)
	apartFrom(t, torn.Text, archive, "DiskTear")
	apartFrom(t, torn.Log, other, "DiskTear")
	up, _ := impl.DiskRise(torn)
	apartFrom(t, up.Text, torn.Log, "DiskRise")
	up, _ = impl.DiskRise(impl.Disk{Text: archive})
	apartFrom(t, up.Text, archive, "DiskRise")

	mark := impl.File{Path: "mark", Text: "mark"}
	for _, list := range [][]impl.File{nil, treeOf("b", "d"), treeOf("a", "dir/b"), fullTree(), treeOf("b", "a"), treeOf("a", "a/b")} {
		for _, text := range []string{impl.ZipPut(nil), other, archive, impl.ZipPut(filesOf("dir", "a")), impl.ZipPut(filesOf("a/b")), "x"} {
			tree, stay := guarded(t, list, mark)
			impl.TreeOk(tree)
			impl.TreeZip(tree, "dir", noon)
			taken, _ := impl.TreeTake(tree, text)
			for _, f := range taken {
				for _, g := range tree {
					apartFrom(t, f.Path, g.Path, "TreeTake")
					apartFrom(t, f.Text, g.Text, "TreeTake")
				}
				apartFrom(t, f.Path, text, "TreeTake")
				apartFrom(t, f.Text, text, "TreeTake")
			}
			scribble(taken, impl.File{Path: "over", Text: "over"})
			stay("TreeOk, TreeZip or TreeTake")
		}
	}
}

// Lines that are handed in stay as they are, also those that are not done.
func TestLinesStayAsTheyAre(t *testing.T) {
	for _, many := range []int{0, 5, 30, 35} {
		lines, stay := guarded(t, randomLines(seeded(103), many), "mark")
		told := impl.Session(lines)
		for _, line := range lines {
			apartFrom(t, told, line, "Session")
		}
		stay("Session")
	}
}
