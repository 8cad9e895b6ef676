package tests

import (
	"math"
	"math/rand"
	"slices"
	"testing"

	"loop.example/corbel/impl"
)

// pieceMany is how many pieces, or symbols, the document lets one call have.
const pieceMany = 4000

// oddNumbers are numbers that no bound lets in, and the outermost ones.
var oddNumbers = []int{-1, -2, math.MinInt, math.MinInt + 1, math.MaxInt, math.MaxInt - 1, 1 << 32, 1 << 40, 1 << 62, -1 << 32}

// seeded is a row of numbers that is the same in each run.
func seeded(seed int64) *rand.Rand {
	return rand.New(rand.NewSource(seed))
}

// same holds lists against each other: an empty one and a nil one are the same.
func same[T comparable](a []T, b []T) bool {
	return slices.Equal(a, b)
}

func randomPieces(r *rand.Rand, many int) []impl.Piece {
	var list []impl.Piece
	for range many {
		bits := r.Intn(impl.BitMax + 1)
		list = append(list, impl.Piece{Num: r.Intn(1 << bits), Bits: bits})
	}
	return list
}

func randomText(r *rand.Rand, long int) string {
	b := make([]byte, long)
	for i := range b {
		b[i] = byte(r.Intn(256))
	}
	return string(b)
}

func numsOf(list []impl.Piece) []int {
	var out []int
	for _, p := range list {
		out = append(out, p.Num)
	}
	return out
}

func bitsOf(list []impl.Piece) []int {
	var out []int
	for _, p := range list {
		out = append(out, p.Bits)
	}
	return out
}

// rowOf is pieces as a row of the signs 0 and 1, worked out in another way than the program does.
func rowOf(list []impl.Piece) string {
	row := ""
	for _, p := range list {
		n := p.Num
		for range p.Bits {
			row += string(rune('0' + n%2))
			n /= 2
		}
	}
	return row
}

// bytesOf is the bytes of such a row.
func bytesOf(row string) string {
	for len(row)%8 != 0 {
		row += "0"
	}
	var out []byte
	for i := 0; i < len(row); i += 8 {
		b := 0
		for k := 7; k >= 0; k-- {
			b = b*2 + int(row[i+k]-'0')
		}
		out = append(out, byte(b))
	}
	return string(out)
}

// repeated is a list of one value many times.
func repeated[T any](value T, many int) []T {
	out := make([]T, many)
	for i := range out {
		out[i] = value
	}
	return out
}

// guarded is a list with room behind its end that is filled with a mark, and a check that neither was written to.
func guarded[T comparable](t *testing.T, list []T, mark T) ([]T, func(name string)) {
	t.Helper()
	all := append(slices.Clone(list), repeated(mark, 8)...)
	want := slices.Clone(all)
	return all[:len(list)], func(name string) {
		t.Helper()
		if !slices.Equal(all, want) {
			t.Errorf("%s wrote into its argument, or behind its end: %v, not %v", name, all, want)
		}
	}
}

// scribble writes over an answer, its spare room included.
func scribble[T any](list []T, mark T) {
	list = list[:cap(list)]
	for i := range list {
		list[i] = mark
	}
}
