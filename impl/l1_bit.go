// Package impl: files in one file.
package impl

// BitMax is how many bits a number has at most.
const BitMax = 16

// bitMany is how many numbers, or symbols, one call writes or reads at most.
const bitMany = 4000

// Piece is a number, and how many bits of it are written.
type Piece struct {
	Num  int
	Bits int
}

// bitEnd is an end of a row of bits. Writing and reading go over the same
// numbers in the same order, so that both are one walk, with another end.
type bitEnd interface {
	// pass leads a piece over the row; the answer is the number that stands there then.
	pass(p Piece) int
}

// bitWriter is the end that writes.
type bitWriter struct {
	bytes []byte
	many  int
}

// pass writes a piece behind all others.
func (w *bitWriter) pass(p Piece) int {
	for i := range p.Bits {
		if w.many%8 == 0 {
			w.bytes = append(w.bytes, 0)
		}
		w.bytes[w.many/8] |= byte(p.Num>>i&1) << (w.many % 8)
		w.many++
	}
	return p.Num
}

// bitReader is the end that reads.
type bitReader struct {
	text  string
	place int
	short bool
}

// bit reads one bit. Behind the end there are noughts, and short is kept, so
// that who reads a number may ask once, when it is whole.
func (r *bitReader) bit() int {
	if r.place/8 >= len(r.text) {
		r.short = true
		return 0
	}
	b := int(r.text[r.place/8]) >> (r.place % 8) & 1
	r.place++
	return b
}

// pass reads a number of as many bits as the piece has; its own number does not count.
func (r *bitReader) pass(p Piece) int {
	num := 0
	for i := range p.Bits {
		num |= r.bit() << i
	}
	return num
}

// restClear passes over what is left of a byte, and says whether that is 0.
func (r *bitReader) restClear() bool {
	rest := 0
	for r.place%8 != 0 {
		rest |= r.bit()
	}
	return rest == 0
}

// eachOf is what a function answers to each of a list.
func eachOf[A any, B any](list []A, do func(A) B) []B {
	var out []B
	for _, a := range list {
		out = append(out, do(a))
	}
	return out
}

// bitWalk leads pieces, one behind the other, over an end.
func bitWalk(end bitEnd, list []Piece) []int {
	return eachOf(list, end.pass)
}

// pieceOk asks for Bits first: a shift by what is below 0 would not answer.
func pieceOk(p Piece) bool {
	return p.Bits >= 0 && p.Bits <= BitMax && p.Num >= 0 && p.Num < 1<<p.Bits
}

// BitsPut writes pieces, the lowest bit first, in bytes that begin with their lowest one; what is left of the last byte is 0.
func BitsPut(list []Piece) string {
	if BitsLong(list) < 0 {
		return ""
	}
	w := &bitWriter{}
	bitWalk(w, list)
	return string(w.bytes)
}

// BitsGet reads numbers of so many bits each; and whether nothing but noughts of one byte is left.
func BitsGet(text string, bits []int) ([]int, bool) {
	if len(bits) > bitMany {
		return nil, false
	}
	blanks := eachOf(bits, func(b int) Piece { return Piece{Bits: b} })
	long := BitsLong(blanks)
	if long < 0 || len(text) != (long+7)/8 {
		return nil, false
	}
	r := &bitReader{text: text}
	nums := bitWalk(r, blanks)
	if !r.restClear() {
		return nil, false
	}
	return nums, true
}

// BitsTurn is a number of so many bits with the last bit first.
func BitsTurn(num int, bits int) int {
	if !pieceOk(Piece{Num: num, Bits: bits}) {
		return -1
	}
	turned := 0
	for i := range bits {
		turned = turned<<1 | num>>i&1
	}
	return turned
}

// BitsLong is how many bits pieces are.
func BitsLong(list []Piece) int {
	if len(list) > bitMany {
		return -1
	}
	long := 0
	for _, p := range list {
		if !pieceOk(p) {
			return -1
		}
		long += p.Bits
	}
	return long
}
