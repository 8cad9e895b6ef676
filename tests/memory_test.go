package tests

import (
	"testing"

	"loop.example/corbel/impl"
)

// Arguments stay as they are, the room behind their end too, while functions run and when their answers are written over.
func TestArgumentsStayAsTheyAre(t *testing.T) {
	pieces, piecesStay := guarded(t, randomPieces(seeded(100), 20), impl.Piece{Num: -7, Bits: -7})
	bits, bitsStay := guarded(t, bitsOf(pieces), -7)
	text := impl.BitsPut(pieces)
	impl.BitsLong(pieces)
	nums, _ := impl.BitsGet(text, bits)
	scribble(nums, -9)
	piecesStay("BitsPut")
	bitsStay("BitsGet")

	lens, lensStay := guarded(t, stairs(impl.LenMax), 1)
	list, listStay := guarded(t, randomSymbols(seeded(101), lens, 30), 2)
	impl.LensOk(lens)
	codes := impl.CodesOf(lens)
	put := impl.SymbolsPut(lens, list)
	got, _ := impl.SymbolsGet(lens, impl.BitsPut(put), len(list))
	scribble(codes, -9)
	scribble(put, impl.Piece{Num: -9, Bits: -9})
	scribble(got, -9)
	lensStay("CodesOf, SymbolsPut or SymbolsGet")
	listStay("SymbolsPut")

	for _, c := range [][]int{{5}, {0, 5}, {1, 1, 2, 4, 8, 16}, {1, 1, 2, 3, 5, 8, 13, 21}} {
		counts, countsStay := guarded(t, c, 3)
		for most := 1; most <= impl.LenMax; most++ {
			scribble(impl.LensOf(counts, most), -9)
		}
		countsStay("LensOf")
	}
}

// Tokens that are handed in stay as they are, also those behind a fault, and those of an answer are its own.
func TestTokensStayAsTheyAre(t *testing.T) {
	mark := impl.Token{Byte: -7, Long: -7, Back: -7}
	for _, list := range [][]impl.Token{impl.TokensOf("stone stone stone"), {{Byte: 'a'}, {Long: 60, Back: 1}}, {{Byte: 'a'}, {Long: 3, Back: 2}, {Byte: 'b'}}, {{Byte: 256}}} {
		tokens, stay := guarded(t, list, mark)
		impl.TokensText(tokens)
		impl.TokensOk(tokens)
		impl.TokensLong(tokens)
		stay("TokensText, TokensOk or TokensLong")
	}
	want := tokensSlowly("stone stone stone")
	for range 3 {
		list := impl.TokensOf("stone stone stone")
		if !same(list, want) {
			t.Fatalf("%v, not %v", list, want)
		}
		scribble(list, mark)
	}
}

// An answer is the same in each call, whatever was done to the one ahead.
func TestNothingIsKept(t *testing.T) {
	counts := []int{5, 9, 12, 13, 16, 45}
	first := impl.LensOf(counts, impl.LenMax)
	want := append([]int(nil), first...)
	codes := append([]int(nil), impl.CodesOf(want)...)
	for range 3 {
		scribble(first, -9)
		scribble(impl.CodesOf(want), -9)
		first = impl.LensOf(counts, impl.LenMax)
		if !same(first, want) || !same(impl.CodesOf(want), codes) {
			t.Fatalf("%v, not %v", first, want)
		}
	}
}
