package tests

import (
	"fmt"
	"math/rand"
	"slices"
	"strings"
	"testing"

	"loop.example/corbel/impl"
)

// randomLens is lengths that make a code: one that is there is split until they are so many; noughts stand between them.
func randomLens(r *rand.Rand, symbols int, noughts int) []int {
	lens := []int{1, 1}
	for len(lens) < symbols {
		i := r.Intn(len(lens))
		if lens[i] < impl.LenMax {
			lens[i]++
			lens = append(lens, lens[i])
		}
	}
	lens = append(lens, make([]int, noughts)...)
	r.Shuffle(len(lens), func(i, j int) { lens[i], lens[j] = lens[j], lens[i] })
	return lens
}

// randomSymbols are symbols that have a length.
func randomSymbols(r *rand.Rand, lens []int, many int) []int {
	var used []int
	for symbol, long := range lens {
		if long > 0 {
			used = append(used, symbol)
		}
	}
	var list []int
	for range many {
		list = append(list, used[r.Intn(len(used))])
	}
	return list
}

// stairs is lengths 1, 2, 3 .. up to the longest there may be, twice.
func stairs(longest int) []int {
	var lens []int
	for long := 1; long <= longest; long++ {
		lens = append(lens, long)
	}
	return append(lens, longest)
}

// digits is a code as signs, its first bit first.
func digits(code int, long int) string {
	return fmt.Sprintf("%0*b", long, code)
}

// lensOkSlowly asks for the same as LensOk, over shares of a whole.
func lensOkSlowly(lens []int) bool {
	share, used, ones := 0.0, 0, 0
	for _, long := range lens {
		if long < 0 || long > impl.LenMax {
			return false
		}
		if long > 0 {
			used++
			share += 1 / float64(int(1)<<long)
		}
		if long == 1 {
			ones++
		}
	}
	return len(lens) <= impl.SymMax && (share == 1 || used == 1 && ones == 1)
}

// lensOfSlowly is what the document says of LensOf, word by word, of counts two of which at least are not 0.
func lensOfSlowly(counts []int, most int) []int {
	counts = slices.Clone(counts)
	for {
		type heap struct{ count, least int }
		lens := make([]int, len(counts))
		within := make([]int, len(counts))
		var heaps []heap
		for symbol, count := range counts {
			within[symbol] = symbol
			if count > 0 {
				heaps = append(heaps, heap{count, symbol})
			}
		}
		for len(heaps) > 1 {
			slices.SortFunc(heaps, func(a, b heap) int {
				if a.count != b.count {
					return a.count - b.count
				}
				return a.least - b.least
			})
			a, b := heaps[0], heaps[1]
			one := heap{a.count + b.count, min(a.least, b.least)}
			for symbol, count := range counts {
				if count > 0 && (within[symbol] == a.least || within[symbol] == b.least) {
					lens[symbol]++
					within[symbol] = one.least
				}
			}
			heaps = append(heaps[2:], one)
		}
		if slices.Max(lens) <= most {
			return lens
		}
		for i := range counts {
			counts[i] = counts[i]/2 + counts[i]%2
		}
	}
}

// randomCounts are counts, some of them 0, two at least not.
func randomCounts(r *rand.Rand, symbols int, greatest int) []int {
	counts := make([]int, symbols)
	for i := range counts {
		if r.Intn(4) > 0 {
			counts[i] = 1 + r.Intn(greatest)
		}
	}
	counts[0], counts[symbols-1] = 1+r.Intn(greatest), 1+r.Intn(greatest)
	return counts
}

func usedOf(counts []int) int {
	used := 0
	for _, c := range counts {
		if c > 0 {
			used++
		}
	}
	return used
}

func TestLensOkOfAllShortLists(t *testing.T) {
	for many := range 6 {
		lens := make([]int, many)
		for n := range 7776 {
			for i := range lens {
				lens[i] = n % 6
				n /= 6
			}
			if impl.LensOk(lens) != lensOkSlowly(lens) {
				t.Fatalf("%v: %v", lens, impl.LensOk(lens))
			}
		}
	}
}

func TestLensOkAtItsBounds(t *testing.T) {
	r := seeded(3)
	whole := randomLens(r, impl.SymMax, 0)
	for i, c := range []struct {
		lens []int
		want bool
	}{
		{nil, false},
		{[]int{0}, false},
		{[]int{1}, true},
		{[]int{0, 0, 1, 0}, true},
		{[]int{2}, false},
		{[]int{15}, false},
		{[]int{2, 2}, false},
		{[]int{1, 1}, true},
		{[]int{1, 1, 15}, false},
		{[]int{2, 2, 2, 2}, true},
		{[]int{2, 2, 2, 2, 2, 2}, false},
		{stairs(14), true},
		{stairs(15), true},
		{stairs(15)[:15], false},
		{stairs(16), false},
		{append(stairs(15), 15), false},
		{append(stairs(15), 0), true},
		{append(stairs(15), -1), false},
		{append([]int{1, 1}, 16), false},
		{append([]int{1}, make([]int, impl.SymMax-1)...), true},
		{append([]int{1}, make([]int, impl.SymMax)...), false},
		{whole, true},
		{append(slices.Clone(whole), 0), false},
		{whole[1:], false},
	} {
		if impl.LensOk(c.lens) != c.want {
			t.Errorf("%d: %v is %v", i, c.lens, !c.want)
		}
		if got := impl.CodesOf(c.lens); len(got) != 0 != c.want || c.want && len(got) != len(c.lens) {
			t.Errorf("%d: codes of %v: %v", i, c.lens, got)
		}
	}
	for _, n := range append([]int{16, 17, 63, 64, 65}, oddNumbers...) {
		for _, lens := range [][]int{{n}, {1, 1, n}, {n, 1, 1}, {1, n}} {
			if impl.LensOk(lens) || len(impl.CodesOf(lens)) != 0 {
				t.Errorf("%v is ok", lens)
			}
		}
	}
}

func TestP11NoCodeBeginsAnother(t *testing.T) {
	r := seeded(11)
	for symbols := 2; symbols < 60; symbols++ {
		lens := randomLens(r, symbols, r.Intn(10))
		codes := impl.CodesOf(lens)
		if len(codes) != len(lens) {
			t.Fatalf("%v: %d codes", lens, len(codes))
		}
		for i, a := range codes {
			if lens[i] == 0 {
				if a != 0 {
					t.Fatalf("%v: %d has no length and the code %d", lens, i, a)
				}
				continue
			}
			for j, b := range codes {
				if i == j || lens[j] == 0 {
					continue
				}
				if strings.HasPrefix(digits(b, lens[j]), digits(a, lens[i])) {
					t.Fatalf("%v: the code of %d begins that of %d", lens, i, j)
				}
				if lens[i] == lens[j] && (i < j) != (a < b) {
					t.Fatalf("%v: codes of %d and %d are not in order", lens, i, j)
				}
				if lens[i] < lens[j] && digits(a, lens[i]) > digits(b, lens[j]) {
					t.Fatalf("%v: the longer code of %d is ahead of that of %d", lens, j, i)
				}
			}
		}
	}
	if c := impl.CodesOf([]int{2, 1, 3, 3}); !same(c, []int{2, 0, 6, 7}) {
		t.Errorf("%v", c)
	}
}

// checkLens holds LensOf against what the document says, and P12.
func checkLens(t *testing.T, counts []int, most int) {
	t.Helper()
	lens := impl.LensOf(counts, most)
	if want := lensOfSlowly(counts, most); !same(lens, want) {
		t.Fatalf("LensOf %v, %d: %v, not %v", counts, most, lens, want)
	}
	if !impl.LensOk(lens) || slices.Max(lens) > most {
		t.Fatalf("LensOf %v, %d: %v", counts, most, lens)
	}
	for i := range counts {
		if (counts[i] == 0) != (lens[i] == 0) {
			t.Fatalf("LensOf %v, %d: %v at %d", counts, most, lens, i)
		}
	}
}

func TestP12LengthsMakeACode(t *testing.T) {
	r := seeded(12)
	for most := 2; most <= impl.LenMax; most++ {
		half := 1 << (most - 1)
		for range 60 {
			symbols := 2 + r.Intn(min(half-1, 60))
			checkLens(t, randomCounts(r, symbols, []int{1, 2, 5, 100, impl.CountMax}[r.Intn(5)]), most)
		}
	}
	for _, greatest := range []int{1, 3, impl.CountMax} {
		checkLens(t, randomCounts(r, impl.SymMax, greatest), impl.LenMax)
		checkLens(t, randomCounts(r, impl.SymMax, greatest), 10)
	}
	checkLens(t, []int{impl.CountMax, 1}, impl.LenMax)
	checkLens(t, []int{impl.CountMax, impl.CountMax}, 2)
	checkLens(t, repeated(impl.CountMax, impl.SymMax), impl.LenMax)
}

// steepCounts are counts whose lengths would be longer than LenMax.
func steepCounts() [][]int {
	steps := []int{1, 1}
	for steps[len(steps)-1]+steps[len(steps)-2] <= impl.CountMax {
		steps = append(steps, steps[len(steps)-1]+steps[len(steps)-2])
	}
	twos := []int{1}
	for n := 1; n <= impl.CountMax; n *= 2 {
		twos = append(twos, n)
	}
	return [][]int{steps, twos}
}

func TestP12LengthsThatWouldBeTooLong(t *testing.T) {
	for _, counts := range steepCounts() {
		for most := 6; most <= impl.LenMax; most++ {
			checkLens(t, counts, most)
			back := slices.Clone(counts)
			slices.Reverse(back)
			checkLens(t, back, most)
		}
	}
	for i, c := range []struct {
		counts []int
		most   int
		want   []int
	}{
		{[]int{1, 1, 2, 4, 8, 16}, 4, []int{4, 4, 4, 4, 2, 1}},
		{[]int{1, 1, 2, 4}, 3, []int{3, 3, 2, 1}},
		{[]int{9, 3, 1, 1}, 3, []int{1, 2, 3, 3}},
		{[]int{1, 2, 4, 8}, 3, []int{3, 3, 2, 1}},
		{[]int{1, 2, 3, 5, 13, 0, 0}, 4, []int{4, 4, 3, 2, 1, 0, 0}},
		// More than half of what would fit.
		{[]int{1, 2, 3, 5, 13}, 3, nil},
	} {
		if got := impl.LensOf(c.counts, c.most); !same(got, c.want) {
			t.Errorf("%d: %v, not %v", i, got, c.want)
		}
	}
}

func TestP12CountsThatMakeNoLengths(t *testing.T) {
	type try struct {
		counts []int
		most   int
	}
	list := []try{
		{nil, 5}, {[]int{0}, 5}, {[]int{0, 0, 0}, 15}, {[]int{-1, 1}, 5}, {[]int{1, 1, -1}, 15},
		{[]int{impl.CountMax + 1, 1}, 15}, {[]int{1, impl.CountMax + 1}, 15}, {[]int{impl.CountMax + 1}, 15},
		{repeated(1, impl.SymMax+1), 15}, {make([]int, impl.SymMax+1), 15}, {append([]int{1}, make([]int, impl.SymMax)...), 15},
		{[]int{1, 1}, 0}, {[]int{1, 1}, -1}, {[]int{1, 1}, 16}, {[]int{1}, 0}, {[]int{1}, 16},
	}
	for most := 1; most <= 8; most++ {
		list = append(list, try{repeated(1, 1<<(most-1)+1), most})
	}
	for _, n := range oddNumbers {
		list = append(list, try{[]int{1, n}, 15}, try{[]int{1, 1}, n})
	}
	for _, c := range list {
		if got := impl.LensOf(c.counts, c.most); len(got) != 0 {
			t.Errorf("LensOf %v, %d: %v", c.counts, c.most, got)
		}
	}
	for most := 2; most <= 9; most++ {
		checkLens(t, repeated(1, 1<<(most-1)), most)
		checkLens(t, append(repeated(5, 1<<(most-1)), 0), most)
	}
	if got := impl.LensOf(repeated(1, impl.SymMax), 9); len(got) != 0 {
		t.Errorf("300 symbols, 9 bits: %v", got)
	}
}

func TestP13MoreOftenIsNotLonger(t *testing.T) {
	r := seeded(13)
	for range 300 {
		counts := randomCounts(r, 2+r.Intn(15), []int{2, 9, impl.CountMax}[r.Intn(3)])
		lens := impl.LensOf(counts, impl.LenMax)
		for i := range counts {
			for j := range counts {
				if counts[i] > counts[j] && counts[j] > 0 && lens[i] > lens[j] {
					t.Fatalf("%v: %v", counts, lens)
				}
			}
		}
	}
}

func TestSymbolsThatComeAsOften(t *testing.T) {
	for i, c := range []struct {
		counts []int
		want   []int
	}{
		{[]int{1, 1, 1}, []int{2, 2, 1}},
		{[]int{2, 1, 1}, []int{1, 2, 2}},
		{[]int{1, 1, 2}, []int{2, 2, 1}},
		// The pair of 0 and 1 comes as often as 2 and 3, and has the least symbol.
		{[]int{1, 1, 2, 2}, []int{3, 3, 2, 1}},
		// Here it is 0 that has it.
		{[]int{2, 2, 1, 1}, []int{2, 2, 2, 2}},
		{[]int{0, 7, 0, 7}, []int{0, 1, 0, 1}},
		{[]int{1, 1, 1, 1, 1}, []int{3, 3, 2, 2, 2}},
		{[]int{5, 9, 12, 13, 16, 45}, []int{4, 4, 3, 3, 3, 1}},
	} {
		if got := impl.LensOf(c.counts, impl.LenMax); !same(got, c.want) {
			t.Errorf("%d: %v, not %v", i, got, c.want)
		}
	}
}

func TestP14SymbolsAreReadBack(t *testing.T) {
	r := seeded(14)
	for symbols := 2; symbols < 120; symbols++ {
		lens := randomLens(r, symbols, r.Intn(20))
		list := randomSymbols(r, lens, r.Intn(80))
		pieces := impl.SymbolsPut(lens, list)
		if len(pieces) != len(list) {
			t.Fatalf("%v of %v: %v", list, lens, pieces)
		}
		codes := impl.CodesOf(lens)
		row, bits := "", 0
		for i, symbol := range list {
			if pieces[i].Bits != lens[symbol] {
				t.Fatalf("%v of %v: %v", list, lens, pieces)
			}
			row += digits(codes[symbol], lens[symbol])
			bits += lens[symbol]
		}
		if rowOf(pieces) != row || impl.BitsLong(pieces) != bits {
			t.Fatalf("%v of %v: %v", list, lens, pieces)
		}
		got, ok := impl.SymbolsGet(lens, impl.BitsPut(pieces), len(list))
		if !ok || !same(got, list) {
			t.Fatalf("%v of %v: %v %v", list, lens, got, ok)
		}
	}
}

func TestP14SymbolsAtTheirBounds(t *testing.T) {
	r := seeded(140)
	for _, lens := range [][]int{stairs(impl.LenMax), randomLens(r, impl.SymMax, 0), {1, 1}, {0, 1}} {
		list := randomSymbols(r, lens, pieceMany)
		text := impl.BitsPut(impl.SymbolsPut(lens, list))
		got, ok := impl.SymbolsGet(lens, text, pieceMany)
		if !ok || !same(got, list) {
			t.Fatalf("%v: %d symbols, %v", lens, len(got), ok)
		}
		if got, ok := impl.SymbolsGet(lens, text+strings.Repeat("\x00", 100), pieceMany+1); ok || len(got) != 0 {
			t.Errorf("%v: one more than may be is read", lens)
		}
		if got := impl.SymbolsPut(lens, randomSymbols(r, lens, pieceMany+1)); len(got) != pieceMany+1 {
			t.Errorf("%v: %d pieces of %d symbols", lens, len(got), pieceMany+1)
		}
	}
	if got, ok := impl.SymbolsGet([]int{1, 1}, "", 0); !ok || len(got) != 0 {
		t.Errorf("no symbols of nothing: %v %v", got, ok)
	}
	if got := impl.SymbolsPut([]int{1, 1}, nil); len(got) != 0 {
		t.Errorf("no symbols are %v", got)
	}
}

func TestP14SymbolsThatAreNotThere(t *testing.T) {
	five := []int{3, 3, 2, 2, 2}
	for i, c := range []struct {
		lens []int
		text string
		many int
	}{
		{[]int{1, 1}, "", 1},
		{[]int{1, 1}, "\x05", 9},
		{[]int{2, 2, 2, 2}, "\xff", 5},
		{stairs(15), "\xff", 1},
		{stairs(15), "\xff\x7f", 3},
		{five, "\x00", 5},
		{[]int{0, 1}, "\x01", 1},
		{[]int{1}, "\x02", 2},
		{[]int{1}, "\xff\xff\xff", 1},
		{[]int{1, 1}, "\x00", -1},
		{nil, "\x00", 0},
		{nil, "\x00", 1},
		{[]int{2}, "\x00", 1},
		{[]int{1, 1, 1}, "\x00", 1},
		{[]int{1, 1, 16}, "\x00", 1},
		{append([]int{1, 1}, make([]int, impl.SymMax)...), "\x00", 1},
	} {
		if got, ok := impl.SymbolsGet(c.lens, c.text, c.many); ok || len(got) != 0 {
			t.Errorf("%d: %v %v", i, got, ok)
		}
	}
	for _, n := range oddNumbers {
		if got, ok := impl.SymbolsGet([]int{1, 1}, "\x00", n); ok || len(got) != 0 {
			t.Errorf("%d symbols: %v %v", n, got, ok)
		}
	}
	for many := range 9 {
		if got, ok := impl.SymbolsGet([]int{1}, "\x00", many); !ok || !same(got, make([]int, many)) {
			t.Errorf("%d of a code that is alone: %v %v", many, got, ok)
		}
	}
}

func TestP15TheFirstAreReadAlone(t *testing.T) {
	r := seeded(15)
	for symbols := 2; symbols < 40; symbols++ {
		lens := randomLens(r, symbols, 3)
		list := randomSymbols(r, lens, 30)
		text := impl.BitsPut(impl.SymbolsPut(lens, list))
		for many := range list {
			for _, s := range []string{text, text + randomText(r, 5)} {
				if got, ok := impl.SymbolsGet(lens, s, many); !ok || !same(got, list[:many]) {
					t.Fatalf("the first %d of %v of %v: %v %v", many, list, lens, got, ok)
				}
			}
		}
		if got, ok := impl.SymbolsGet(lens, text, 30+8); ok || len(got) != 0 {
			t.Fatalf("%v of %v: %v more", list, lens, got)
		}
	}
}

func TestP57ASymbolAlone(t *testing.T) {
	for _, many := range []int{1, 2, 19, impl.SymMax} {
		for _, place := range []int{0, many / 2, many - 1} {
			for _, count := range []int{1, 2, impl.CountMax} {
				for _, most := range []int{1, 2, impl.LenMax} {
					counts, want := make([]int, many), make([]int, many)
					counts[place], want[place] = count, 1
					lens := impl.LensOf(counts, most)
					if !same(lens, want) || !impl.LensOk(lens) {
						t.Fatalf("%d at %d of %d: %v", count, place, many, lens)
					}
					if codes := impl.CodesOf(lens); !same(codes, make([]int, many)) {
						t.Fatalf("%d at %d of %d: %v", count, place, many, codes)
					}
					if p := impl.SymbolsPut(lens, []int{place}); !same(p, []impl.Piece{{Num: 0, Bits: 1}}) {
						t.Fatalf("%d at %d of %d: %v", count, place, many, p)
					}
				}
			}
		}
	}
}

func TestP58AsOftenIsNearlyAsLong(t *testing.T) {
	for symbols := 2; symbols <= impl.SymMax; symbols++ {
		for _, count := range []int{1, 7, impl.CountMax} {
			lens := impl.LensOf(repeated(count, symbols), impl.LenMax)
			if len(lens) != symbols || slices.Max(lens)-slices.Min(lens) > 1 {
				t.Fatalf("%d symbols %d times: %v", symbols, count, lens)
			}
		}
	}
}

func TestP59TwiceAsGreat(t *testing.T) {
	r := seeded(59)
	for range 200 {
		counts := randomCounts(r, 2+r.Intn(31), []int{1, 3, 30, impl.CountMax / 2}[r.Intn(4)])
		twice := slices.Clone(counts)
		for i := range twice {
			twice[i] *= 2
		}
		for _, most := range []int{6, 8, impl.LenMax} {
			if a, b := impl.LensOf(counts, most), impl.LensOf(twice, most); len(a) == 0 || !same(a, b) {
				t.Fatalf("%v, %d: %v, %v", counts, most, a, b)
			}
		}
	}
}

func TestP60SymbolsTwice(t *testing.T) {
	r := seeded(60)
	for symbols := 2; symbols < 60; symbols++ {
		lens := randomLens(r, symbols, 4)
		a, b := randomSymbols(r, lens, r.Intn(30)), randomSymbols(r, lens, r.Intn(30))
		for _, behind := range [][]int{a, b} {
			both := impl.SymbolsPut(lens, slices.Concat(a, behind))
			if !same(both, slices.Concat(impl.SymbolsPut(lens, a), impl.SymbolsPut(lens, behind))) {
				t.Fatalf("%v, %v of %v: %v", a, behind, lens, both)
			}
		}
	}
}

func TestP61ASymbolWithoutACode(t *testing.T) {
	lens := []int{0, 2, 0, 1, 2, 0}
	if got := impl.SymbolsPut(lens, []int{1, 3, 4}); !same(got, []impl.Piece{{Num: 1, Bits: 2}, {Num: 0, Bits: 1}, {Num: 3, Bits: 2}}) {
		t.Errorf("%v", got)
	}
	for _, n := range append([]int{0, 2, 5, 6, 7, 300}, oddNumbers...) {
		for _, list := range [][]int{{n}, {n, 1}, {1, n}, {1, n, 3}} {
			if got := impl.SymbolsPut(lens, list); len(got) != 0 {
				t.Errorf("%v: %v", list, got)
			}
		}
	}
	for _, bad := range [][]int{nil, {0, 0}, {2}, {1, 1, 1}, {1, 2}, {1, 16}, {-1, 1, 1}} {
		for _, list := range [][]int{nil, {0}, {1}} {
			if got := impl.SymbolsPut(bad, list); len(got) != 0 {
				t.Errorf("%v of %v: %v", list, bad, got)
			}
		}
	}
}

func TestP80NoughtsAndAllBits(t *testing.T) {
	r := seeded(80)
	for symbols := 2; symbols <= impl.SymMax; symbols++ {
		lens := randomLens(r, symbols, min(r.Intn(5), impl.SymMax-symbols))
		codes := impl.CodesOf(lens)
		first, last := -1, -1
		for i, long := range lens {
			if long > 0 && (first < 0 || long < lens[first]) {
				first = i
			}
			if long > 0 && (last < 0 || long >= lens[last]) {
				last = i
			}
		}
		if codes[first] != 0 || codes[last] != 1<<lens[last]-1 {
			t.Fatalf("%v: %v", lens, codes)
		}
	}
}

func TestP81TooMuchMakesNoCode(t *testing.T) {
	r := seeded(81)
	for symbols := 2; symbols < 100; symbols++ {
		lens := randomLens(r, symbols, 3)
		for _, long := range []int{1, lens[0], impl.LenMax} {
			more := append(slices.Clone(lens), long)
			if impl.LensOk(more) != (long == 0) || len(impl.CodesOf(more)) != 0 != (long == 0) {
				t.Fatalf("%v is ok", more)
			}
		}
	}
	if impl.LensOk([]int{1, 1, 1}) || !impl.LensOk([]int{1, 1}) {
		t.Error("three of length 1")
	}
}

func TestP82NoOtherLengthsAreBetter(t *testing.T) {
	r := seeded(82)
	all := steepCounts()
	for range 200 {
		all = append(all, randomCounts(r, 2+r.Intn(impl.SymMax-1), []int{1, 9, 1000, impl.CountMax}[r.Intn(4)]))
	}
	for _, counts := range all {
		one := 1
		for 1<<one < usedOf(counts) {
			one++
		}
		lens := impl.LensOf(counts, impl.LenMax)
		need, even := 0, 0
		for i := range lens {
			need += counts[i] * lens[i]
			even += counts[i] * one
		}
		if len(lens) != len(counts) || need > even {
			t.Fatalf("%v: %d bits, %d by codes of one length", counts, need, even)
		}
	}
}
