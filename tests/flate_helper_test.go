package tests

import (
	"bytes"
	"compress/flate"
	"io"
	"math/rand"
	"slices"
	"strings"
	"testing"

	"loop.example/corbel/impl"
)

// Packed texts are built and read here as rows of the signs 0 and 1, in another way than the program does.

// litBase and litMore are, by symbols from 257 on, the shortest length, and how many bits are behind (RFC 1951, 3.2.5).
var litBase = []int{3, 4, 5, 6, 7, 8, 9, 10, 11, 13, 15, 17, 19, 23, 27, 31, 35, 43, 51, 59, 67, 83, 99, 115, 131, 163, 195, 227}
var litMore = []int{0, 0, 0, 0, 0, 0, 0, 0, 1, 1, 1, 1, 2, 2, 2, 2, 3, 3, 3, 3, 4, 4, 4, 4, 5, 5, 5, 5}

// distBase and distMore are that of distances.
var distBase = []int{1, 2, 3, 4, 5, 7, 9, 13, 17, 25, 33, 49, 65, 97, 129, 193, 257, 385, 513, 769, 1025, 1537, 2049, 3073, 4097, 6145, 8193, 12289, 16385, 24577}
var distMore = []int{0, 0, 0, 0, 1, 1, 2, 2, 3, 3, 4, 4, 5, 5, 6, 6, 7, 7, 8, 8, 9, 9, 10, 10, 11, 11, 12, 12, 13, 13}

// lenPlaces is the order of lengths of lengths (RFC 1951, 3.2.7).
var lenPlaces = []int{16, 17, 18, 0, 8, 7, 9, 6, 10, 5, 11, 4, 12, 3, 13, 2, 14, 1, 15}

// rowOfNum is a number, its lowest bit first.
func rowOfNum(num int, bits int) string {
	return rowOf([]impl.Piece{{Num: num, Bits: bits}})
}

// rowOfText is all bits of a text.
func rowOfText(text string) string {
	var b strings.Builder
	for _, c := range []byte(text) {
		b.WriteString(rowOfNum(int(c), 8))
	}
	return b.String()
}

// rowsOfCodes is codes by symbol, the first bit of each first; the empty row of symbols without one.
func rowsOfCodes(lens []int) []string {
	rows := make([]string, len(lens))
	code := 0
	for long := 1; long <= 15; long++ {
		for symbol, l := range lens {
			if l == long {
				rows[symbol] = digits(code, long)
				code++
			}
		}
		code *= 2
	}
	return rows
}

// fixedLens is lengths of the codes that all know.
func fixedLens() ([]int, []int) {
	lits := slices.Concat(repeated(8, 144), repeated(9, 112), repeated(7, 24), repeated(8, 8))
	return lits, repeated(5, 32)
}

// spanOf is the last symbol of a table that begins at a number or ahead of it.
func spanOf(base []int, num int) int {
	for i := len(base) - 1; i > 0; i-- {
		if base[i] <= num {
			return i
		}
	}
	return 0
}

// rowOfToken is a token by codes.
func rowOfToken(token impl.Token, lits []string, dists []string) string {
	if token.Long == 0 {
		return lits[token.Byte]
	}
	l, d := spanOf(litBase, token.Long), spanOf(distBase, token.Back)
	return lits[257+l] + rowOfNum(token.Long-litBase[l], litMore[l]) + dists[d] + rowOfNum(token.Back-distBase[d], distMore[d])
}

// rowOfTokens is tokens and the end.
func rowOfTokens(list []impl.Token, lits []int, dists []int) string {
	a, b := rowsOfCodes(lits), rowsOfCodes(dists)
	row := ""
	for _, token := range list {
		row += rowOfToken(token, a, b)
	}
	return row + a[256]
}

// headRow is how a part begins.
func headRow(last bool, kind int) string {
	if last {
		return "1" + rowOfNum(kind, 2)
	}
	return "0" + rowOfNum(kind, 2)
}

// storeRow is a part that is not packed, behind a row.
func storeRow(ahead string, last bool, text string) string {
	row := ahead + headRow(last, 0)
	for len(row)%8 != 0 {
		row += "0"
	}
	return row + rowOfNum(len(text), 16) + rowOfNum(len(text)^65535, 16) + rowOfText(text)
}

// fixedRow is a part by codes that all know.
func fixedRow(last bool, list []impl.Token) string {
	lits, dists := fixedLens()
	return headRow(last, 1) + rowOfTokens(list, lits, dists)
}

// ownHead is the head of a part of its own codes, in all its freedom.
type ownHead struct {
	lits  int      // how many lengths of bytes, the end and lengths it tells
	dists int      // how many of distances
	lens  []int    // lengths of lengths, by symbol, 19 of them
	told  int      // how many of these it tells
	rows  []lenRow // the lengths
}

// lenRow is a length, or one of 16 to 18 and the number behind it.
type lenRow struct {
	symbol int
	more   int
}

// row is the head of a part.
func (h ownHead) row(last bool) string {
	row := headRow(last, 2) + rowOfNum(h.lits-257, 5) + rowOfNum(h.dists-1, 5) + rowOfNum(h.told-4, 4)
	for _, symbol := range lenPlaces[:h.told] {
		row += rowOfNum(h.lens[symbol], 3)
	}
	codes := rowsOfCodes(h.lens)
	for _, l := range h.rows {
		row += codes[l.symbol] + rowOfNum(l.more, moreBits(l.symbol))
	}
	return row
}

// moreBits is how many bits are behind a symbol of lengths.
func moreBits(symbol int) int {
	switch symbol {
	case 16:
		return 2
	case 17:
		return 3
	case 18:
		return 7
	}
	return 0
}

// lenRowsOf tells lengths one by one, or, if they are to be gathered, by 16 to 18 wherever those are longest.
func lenRowsOf(lens []int, gather bool) []lenRow {
	var rows []lenRow
	for i := 0; i < len(lens); {
		run := 1
		for i+run < len(lens) && lens[i+run] == lens[i] {
			run++
		}
		switch {
		case gather && lens[i] == 0 && run >= 11:
			run = min(run, 138)
			rows = append(rows, lenRow{18, run - 11})
		case gather && lens[i] == 0 && run >= 3:
			rows = append(rows, lenRow{17, run - 3})
		case gather && i > 0 && lens[i] == lens[i-1] && run >= 3:
			run = min(run, 6)
			rows = append(rows, lenRow{16, run - 3})
		default:
			run = 1
			rows = append(rows, lenRow{lens[i], 0})
		}
		i += run
	}
	return rows
}

// ownHeadOf is a head that tells lengths.
func ownHeadOf(lits []int, dists []int, gather bool) ownHead {
	h := ownHead{lits: len(lits), dists: len(dists), told: 19, rows: lenRowsOf(slices.Concat(lits, dists), gather)}
	h.lens = lensOfRows(h.rows)
	return h
}

// lensOfRows is lengths of lengths, by how often they come.
func lensOfRows(rows []lenRow) []int {
	counts := make([]int, 19)
	for _, l := range rows {
		counts[l.symbol]++
	}
	if usedOf(counts) == 1 {
		return onesOf(counts)
	}
	return lensOfSlowly(counts, 7)
}

// onesOf is 1 of each count that is not 0.
func onesOf(counts []int) []int {
	lens := make([]int, len(counts))
	for i, c := range counts {
		lens[i] = min(c, 1)
	}
	return lens
}

// ownRow is a part by codes of lengths that are given.
func ownRow(last bool, list []impl.Token, lits []int, dists []int, gather bool) string {
	return ownHeadOf(lits, dists, gather).row(last) + rowOfTokens(list, lits, dists)
}

// cutTo is lengths without noughts at their end, but so many at least.
func cutTo(lens []int, least int) []int {
	for len(lens) > least && lens[len(lens)-1] == 0 {
		lens = lens[:len(lens)-1]
	}
	return lens
}

// lensOfTokens is lengths of both codes as OwnPut makes them.
func lensOfTokens(list []impl.Token) ([]int, []int) {
	lits, dists := make([]int, 286), make([]int, 30)
	lits[256] = 1
	for _, token := range list {
		if token.Long == 0 {
			lits[token.Byte]++
			continue
		}
		lits[257+spanOf(litBase, token.Long)]++
		dists[spanOf(distBase, token.Back)]++
	}
	if usedOf(dists) == 0 {
		dists[0] = 1
	}
	both := [][]int{lits, dists}
	for i, counts := range both {
		if usedOf(counts) == 1 {
			both[i] = onesOf(counts)
		} else {
			both[i] = lensOfSlowly(counts, 15)
		}
	}
	return cutTo(both[0], 257), cutTo(both[1], 1)
}

// ownSlowly is OwnPut, as the document says it.
func ownSlowly(text string) string {
	list := tokensSlowly(text)
	lits, dists := lensOfTokens(list)
	return bytesOf(ownRow(true, list, lits, dists, false))
}

// rowReader reads a row; it panics with a text where that is no packed one.
type rowReader struct {
	row   string
	place int
	text  string
}

func (r *rowReader) need(ok bool, why string) {
	if !ok {
		panic(why)
	}
}

func (r *rowReader) num(bits int) int {
	r.need(r.place+bits <= len(r.row), "short")
	n := 0
	for i := bits - 1; i >= 0; i-- {
		n = n*2 + int(r.row[r.place+i]-'0')
	}
	r.place += bits
	return n
}

func (r *rowReader) align() {
	for r.place%8 != 0 {
		r.need(r.num(1) == 0, "left bits")
	}
}

// symbols is a code, by rows.
func (r *rowReader) symbols(lens []int) map[string]int {
	r.need(lensOkSlowly(lens), "code")
	codes := map[string]int{}
	for symbol, row := range rowsOfCodes(lens) {
		if row != "" {
			codes[row] = symbol
		}
	}
	return codes
}

func (r *rowReader) symbol(codes map[string]int) int {
	for long := 1; long <= 15; long++ {
		r.need(r.place+long <= len(r.row), "short")
		if symbol, ok := codes[r.row[r.place:r.place+long]]; ok {
			r.place += long
			return symbol
		}
	}
	panic("no code")
}

func (r *rowReader) tokens(lits map[string]int, dists map[string]int) {
	for {
		s := r.symbol(lits)
		if s == 256 {
			return
		}
		token := impl.Token{Byte: s}
		if s > 256 {
			r.need(s <= 284, "length")
			long := litBase[s-257] + r.num(litMore[s-257])
			d := r.symbol(dists)
			r.need(d < 30, "distance")
			token = impl.Token{Long: long, Back: distBase[d] + r.num(distMore[d])}
		}
		text, ok := growSlowly(r.text, token)
		r.need(ok, "token")
		r.text = text
	}
}

func (r *rowReader) own() {
	lits, dists, told := 257+r.num(5), 1+r.num(5), 0
	r.need(lits <= 286 && dists <= 30, "too many")
	told = 4 + r.num(4)
	lens := make([]int, 19)
	for _, symbol := range lenPlaces[:told] {
		lens[symbol] = r.num(3)
	}
	codes := r.symbols(lens)
	var all []int
	for len(all) < lits+dists {
		switch s := r.symbol(codes); s {
		case 16:
			r.need(len(all) > 0, "none ahead")
			all = append(all, repeated(all[len(all)-1], 3+r.num(2))...)
		case 17:
			all = append(all, repeated(0, 3+r.num(3))...)
		case 18:
			all = append(all, repeated(0, 11+r.num(7))...)
		default:
			all = append(all, s)
		}
	}
	r.need(len(all) == lits+dists, "more lengths")
	r.tokens(r.symbols(all[:lits]), r.symbols(all[lits:]))
}

func (r *rowReader) part() bool {
	last := r.num(1) == 1
	switch r.num(2) {
	case 0:
		r.align()
		long := r.num(16)
		r.need(r.num(16) == 65535-long, "told twice")
		for range long {
			r.text += string([]byte{byte(r.num(8))})
		}
		r.need(len(r.text) <= 300, "too long")
	case 1:
		lits, dists := fixedLens()
		r.tokens(r.symbols(lits), r.symbols(dists))
	case 2:
		r.own()
	default:
		panic("kind 3")
	}
	return last
}

// getSlowly is FlateGet, as the document says it; and why it is false, if it is.
func getSlowly(text string) (unpacked string, took int, ok bool, why string) {
	if len(text) > 700 {
		return "", 0, false, "too long"
	}
	r := &rowReader{row: rowOfText(text)}
	defer func() {
		if said := recover(); said != nil {
			unpacked, took, ok, why = "", 0, false, said.(string)
		}
	}()
	for !r.part() {
	}
	r.align()
	return r.text, r.place / 8, true, ""
}

// checkGet holds FlateGet and FlateKind against what the document says; and is why a text is none.
func checkGet(t *testing.T, packed string) string {
	t.Helper()
	want, long, may, why := getSlowly(packed)
	text, took, ok := impl.FlateGet(packed)
	if text != want || took != long || ok != may {
		t.Fatalf("FlateGet %q: %q %d %v, not %q %d %v %s", packed, text, took, ok, want, long, may, why)
	}
	kind := -1
	if may {
		kind = int(packed[0]) / 2 % 4
	}
	if got := impl.FlateKind(packed); got != kind {
		t.Fatalf("FlateKind %q: %d, not %d", packed, got, kind)
	}
	if may {
		checkByAll(t, packed, text, took)
	}
	return why
}

// checkByAll asks whether all the world unpacks it to the same text, and takes as many bytes.
func checkByAll(t *testing.T, packed string, text string, took int) {
	t.Helper()
	source := bytes.NewReader([]byte(packed))
	got, err := io.ReadAll(flate.NewReader(source))
	if err != nil || string(got) != text || len(packed)-source.Len() != took {
		t.Fatalf("%q is to the world %q, of %d bytes, %v; not %q, of %d", packed, got, len(packed)-source.Len(), err, text, took)
	}
}

// randomRow is parts of all kinds, that make a text; and this.
func randomRow(r *rand.Rand, parts int) (string, string) {
	row := ""
	var all []impl.Token
	for i := range parts {
		last := i == parts-1
		begin := len(all)
		long, _ := textSlowly(all)
		all = append(all, moreTokens(r, len(long), 1+r.Intn(impl.TextMax/parts-10))...)
		list := all[begin:]
		switch r.Intn(4) {
		case 0:
			text, _ := textSlowly(all)
			row = storeRow(row, last, text[len(long):])
		case 1:
			row += fixedRow(last, list)
		default:
			lits, dists := lensOfTokens(list)
			if r.Intn(2) == 0 && len(lits) < 280 {
				lits = append(lits, make([]int, r.Intn(286-len(lits)+1))...)
				dists = append(dists, make([]int, r.Intn(30-len(dists)+1))...)
			}
			row += ownRow(last, list, lits, dists, r.Intn(3) > 0)
		}
	}
	text, _ := textSlowly(all)
	return row, text
}

// moreTokens are tokens behind so many bytes that make at most so many more.
func moreTokens(r *rand.Rand, behind int, most int) []impl.Token {
	var list []impl.Token
	made := 0
	for range 40 {
		token := impl.Token{Byte: r.Intn(256)}
		if r.Intn(2) == 0 {
			token.Byte = 'a' + r.Intn(4)
		}
		if behind+made > 0 && r.Intn(3) == 0 {
			token = impl.Token{Long: impl.LongMin + r.Intn(impl.LongMax-impl.LongMin+1), Back: 1 + r.Intn(min(behind+made, impl.BackMax))}
		}
		if made+max(1, token.Long) > most {
			continue
		}
		made += max(1, token.Long)
		list = append(list, token)
	}
	return list
}

// steepText is a text whose lengths are so unlike in number that they would be told by more than seven bits.
func steepText() string {
	return "beebdaf\xe5uibbdbhahabcddcaaca\xc1dabab\xf5ba\xa5\xdddab\x9bdkabcdhbaaddeaaaaG" +
		"ab\x15cSda\x9ca<dcahac\xebbc\x1cdahbc\xf8cc\xe4Oiabacaakfe\x8eda\x95adecdadwaBaabcab" +
		"aaa\x8fadbbadaf\xebOagdaabc\x1eabdab\x0fa\xf2aabddaagd6a\x17bae\xe5aaadbc\x98adbae\x1ce" +
		"Dadcecccu\xa5bbacbahbabbb\x0f#beb\xf1fdcaa\xf5abadb6aaebbcavbdeOhdaebcaa" +
		"edia\xe9}a\xf1dcabebhdRaaiedd\xf1cabbabaacca\xbddadabagdaiaYaaUkBavae\x15ba"
}
