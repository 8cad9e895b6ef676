package impl

import "slices"

// Limits of codes.
const (
	LenMax   = 15
	SymMax   = 300
	CountMax = 100000
)

// codeBook is a code of symbols of one kind. Kinds are types of their own, so
// that a symbol of one code is not told by another one.
type codeBook[S ~int] struct {
	lens   []int
	codes  []int
	many   [LenMax + 1]int
	sorted []S
}

// codeBookOf makes a code of lengths that are ok.
func codeBookOf[S ~int](lens []int) codeBook[S] {
	book := codeBook[S]{lens: lens, codes: make([]int, len(lens))}
	next := 0
	for long := 1; long <= LenMax; long++ {
		next *= 2
		for symbol, l := range lens {
			if l == long {
				book.codes[symbol] = next
				book.many[long]++
				book.sorted = append(book.sorted, S(symbol))
				next++
			}
		}
	}
	return book
}

// has says whether a symbol has a code.
func (c codeBook[S]) has(symbol S) bool {
	return symbol >= 0 && int(symbol) < len(c.lens) && c.lens[symbol] > 0
}

// put writes a symbol that has a code: a code's first bit is its highest one, so it is turned.
func (c codeBook[S]) put(symbol S) Piece {
	long := c.lens[symbol]
	return Piece{Num: BitsTurn(c.codes[symbol], long), Bits: long}
}

// get reads a symbol. Codes of one length are numbers in a row, as their
// symbols are in sorted, so that it is enough to know how many there are of each.
func (c codeBook[S]) get(r *bitReader) (S, bool) {
	code, first, place := 0, 0, 0
	for long := 1; long <= LenMax; long++ {
		code = code*2 + r.bit()
		first *= 2
		if r.short {
			return 0, false
		}
		if code < first+c.many[long] {
			return c.sorted[place+code-first], true
		}
		first += c.many[long]
		place += c.many[long]
	}
	return 0, false
}

// heapRow is all that a heap asks of what lies on it.
type heapRow interface {
	size() int
	before(a int, b int) bool
	swap(a int, b int)
}

// heapRise brings what is at a place up to where it belongs.
func heapRise(row heapRow, place int) {
	for place > 0 && row.before(place, (place-1)/2) {
		row.swap(place, (place-1)/2)
		place = (place - 1) / 2
	}
}

// heapSink brings what is at a place down to where it belongs.
func heapSink(row heapRow, place int) {
	for 2*place+1 < row.size() {
		child := 2*place + 1
		if child+1 < row.size() && row.before(child+1, child) {
			child++
		}
		if !row.before(child, place) {
			return
		}
		row.swap(child, place)
		place = child
	}
}

// symGroup is symbols that were put together: how often they come, the least of them, all of them.
type symGroup struct {
	count   int
	least   int
	symbols []int
}

// symHeap has the group on top that comes the least often; of as often ones that with the least symbol.
type symHeap struct {
	groups []symGroup
}

func (h *symHeap) size() int {
	return len(h.groups)
}

func (h *symHeap) before(a int, b int) bool {
	x, y := h.groups[a], h.groups[b]
	if x.count != y.count {
		return x.count < y.count
	}
	return x.least < y.least
}

func (h *symHeap) swap(a int, b int) {
	h.groups[a], h.groups[b] = h.groups[b], h.groups[a]
}

// lay puts a group on the heap.
func (h *symHeap) lay(g symGroup) {
	h.groups = append(h.groups, g)
	heapRise(h, h.size()-1)
}

// take takes the group on top.
func (h *symHeap) take() symGroup {
	last := h.size() - 1
	h.swap(0, last)
	top := h.groups[last]
	h.groups = h.groups[:last]
	heapSink(h, 0)
	return top
}

// symHeapOf lays each symbol that comes as a group of its own.
func symHeapOf(counts []int) *symHeap {
	h := &symHeap{}
	for symbol, count := range counts {
		if count > 0 {
			h.lay(symGroup{count: count, least: symbol, symbols: []int{symbol}})
		}
	}
	return h
}

// pairedLens is lengths by counts, however long they are; two symbols at least come.
func pairedLens(counts []int) []int {
	lens := make([]int, len(counts))
	h := symHeapOf(counts)
	for h.size() > 1 {
		a, b := h.take(), h.take()
		both := slices.Concat(a.symbols, b.symbols)
		for _, symbol := range both {
			lens[symbol]++
		}
		h.lay(symGroup{count: a.count + b.count, least: min(a.least, b.least), symbols: both})
	}
	return lens
}

// countsUsed is how many counts are not 0; -1, if they are too many, or one is not in its bounds.
func countsUsed(counts []int) int {
	if len(counts) > SymMax {
		return -1
	}
	used := 0
	for _, count := range counts {
		if count < 0 || count > CountMax {
			return -1
		}
		if count > 0 {
			used++
		}
	}
	return used
}

// halfUp is half of a count, upwards: one that comes does not become one that does not.
func halfUp(count int) int {
	return (count + 1) / 2
}

// lensWhole says whether all rows of bits begin with a code of such lengths, or there is but one, of length 1.
func lensWhole(lens []int) bool {
	used, taken := 0, 0
	for _, long := range lens {
		if long > 0 {
			used++
			taken += 1 << (LenMax - long)
		}
	}
	return taken == 1<<LenMax || used == 1 && taken == 1<<(LenMax-1)
}

// LensOk says whether lengths, by symbol, make a code: every row of bits begins with just one; a single one of length 1 may be alone.
func LensOk(lens []int) bool {
	if len(lens) > SymMax {
		return false
	}
	for _, long := range lens {
		if long < 0 || long > LenMax {
			return false
		}
	}
	return lensWhole(lens)
}

// CodesOf is codes of symbols by their lengths; 0 for those without.
func CodesOf(lens []int) []int {
	if !LensOk(lens) {
		return nil
	}
	return codeBookOf[int](lens).codes
}

// LensOf is lengths by how often symbols come, none longer than most.
func LensOf(counts []int, most int) []int {
	used := countsUsed(counts)
	if most < 1 || most > LenMax || used < 1 || used > 1<<(most-1) {
		return nil
	}
	if used == 1 {
		return eachOf(counts, func(count int) int { return min(count, 1) })
	}
	lens := pairedLens(counts)
	for slices.Max(lens) > most {
		counts = eachOf(counts, halfUp)
		lens = pairedLens(counts)
	}
	return lens
}

// SymbolsPut writes symbols by a code, the first bit of each first.
func SymbolsPut(lens []int, list []int) []Piece {
	if !LensOk(lens) {
		return nil
	}
	book := codeBookOf[int](lens)
	for _, symbol := range list {
		if !book.has(symbol) {
			return nil
		}
	}
	return eachOf(list, book.put)
}

// SymbolsGet reads so many symbols by a code from the beginning of a text.
func SymbolsGet(lens []int, text string, many int) ([]int, bool) {
	if !LensOk(lens) || many < 0 || many > bitMany {
		return nil, false
	}
	book := codeBookOf[int](lens)
	r := &bitReader{text: text}
	var list []int
	for range many {
		symbol, ok := book.get(r)
		if !ok {
			return nil, false
		}
		list = append(list, symbol)
	}
	return list, true
}
