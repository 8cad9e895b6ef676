package tests

import (
	"bytes"
	"compress/flate"
	"math/rand"
	"slices"
	"strings"
	"testing"

	"loop.example/corbel/impl"
)

// packers are the three ways to pack, by kind.
var packers = []func(string) string{impl.StorePut, impl.FixedPut, impl.OwnPut}

// checkUnpacked asks for a text back from how it was packed, also with something behind.
func checkUnpacked(t *testing.T, packed string, text string, kind int) {
	t.Helper()
	for _, behind := range []string{"", "\x00", "\xff", "behind"} {
		got, took, ok := impl.FlateGet(packed + behind)
		if got != text || took != len(packed) || !ok {
			t.Fatalf("%q packed as %q: %q %d %v", text, packed+behind, got, took, ok)
		}
		if k := impl.FlateKind(packed + behind); k != kind {
			t.Fatalf("%q packed as %q is of kind %d, not %d", text, packed+behind, k, kind)
		}
	}
	checkByAll(t, packed, text, len(packed))
}

func TestP19StoredTextsAreReadBack(t *testing.T) {
	for _, text := range someTexts() {
		packed := impl.StorePut(text)
		long := string([]byte{byte(len(text)), byte(len(text) >> 8)})
		turned := string([]byte{^long[0], ^long[1]})
		if packed != "\x01"+long+turned+text {
			t.Fatalf("%q: %q", text, packed)
		}
		checkUnpacked(t, packed, text, impl.FlateStore)
	}
}

func TestP20FixedTextsAreReadBack(t *testing.T) {
	for _, text := range someTexts() {
		packed := impl.FixedPut(text)
		if want := bytesOf(fixedRow(true, tokensSlowly(text))); packed != want {
			t.Fatalf("%q: %q, not %q", text, packed, want)
		}
		checkUnpacked(t, packed, text, impl.FlateFixed)
	}
	for text, want := range map[string]string{"": "\x03\x00", "a": "\x4b\x04\x00", "hello": "\xcb\x48\xcd\xc9\xc9\x07\x00", "aaaaaaaaaa": "\x4b\x84\x03\x00"} {
		if got := impl.FixedPut(text); got != want {
			t.Errorf("%q: %q, not %q", text, got, want)
		}
	}
}

func TestP21OwnTextsAreReadBack(t *testing.T) {
	for _, text := range someTexts() {
		packed := impl.OwnPut(text)
		if want := ownSlowly(text); packed != want {
			t.Fatalf("%q: %q, not %q", text, packed, want)
		}
		if len(packed) > impl.FlateMax {
			t.Fatalf("%q: %d bytes", text, len(packed))
		}
		checkUnpacked(t, packed, text, impl.FlateOwn)
	}
}

// Lengths whose own lengths would be longer than seven bits, were their counts not halved.
func TestP21LengthsOfLengthsThatWouldBeTooLong(t *testing.T) {
	text := steepText()
	lits, dists := lensOfTokens(tokensSlowly(text))
	counts := make([]int, 19)
	for _, long := range slices.Concat(lits, dists) {
		counts[long]++
	}
	if longest := slices.Max(lensOfSlowly(counts, 15)); longest <= 7 {
		t.Fatalf("%v are told by %d bits", counts, longest)
	}
	packed := impl.OwnPut(text)
	if want := ownSlowly(text); packed != want {
		t.Fatalf("%q, not %q", packed, want)
	}
	checkUnpacked(t, packed, text, impl.FlateOwn)
}

func TestP22TheShortestOfThree(t *testing.T) {
	taken := make([]int, 3)
	for _, text := range someTexts() {
		best := 0
		for kind, pack := range packers {
			if len(pack(text)) < len(packers[best](text)) {
				best = kind
			}
		}
		packed := impl.FlatePut(text)
		if packed != packers[best](text) {
			t.Fatalf("%q: %q", text, packed)
		}
		checkUnpacked(t, packed, text, best)
		taken[best]++
	}
	if slices.Min(taken) == 0 {
		t.Errorf("%v: a kind was never the shortest", taken)
	}
}

// skewText is a text of bytes that come the less often the greater they are.
func skewText(r *rand.Rand, long int) string {
	b := make([]byte, long)
	for i := range b {
		b[i] = byte(140 + r.Intn(1+r.Intn(1+r.Intn(20))))
	}
	return string(b)
}

// Of as short ones the first: texts are looked for that two kinds pack in as many bytes.
func TestP22OfAsShortOnesTheFirst(t *testing.T) {
	r := seeded(22)
	found := make([]int, 2)
	for i := range 3000 {
		text := randomText(r, 20+r.Intn(60))
		if i%2 == 0 {
			text = skewText(r, 80+r.Intn(150))
		}
		store, fixed, own := impl.StorePut(text), impl.FixedPut(text), impl.OwnPut(text)
		packed := impl.FlatePut(text)
		switch {
		case len(store) == len(fixed) && len(fixed) <= len(own):
			found[0]++
			if packed != store {
				t.Fatalf("%q: %q", text, packed)
			}
		case len(fixed) == len(own) && len(fixed) < len(store):
			found[1]++
			if packed != fixed {
				t.Fatalf("%q: %q", text, packed)
			}
		}
	}
	if found[0] == 0 || found[1] == 0 {
		t.Errorf("%v", found)
	}
}

func TestP23WhatIsUnpackedEndsWhereItEnds(t *testing.T) {
	r := seeded(23)
	for _, text := range someTexts() {
		for _, pack := range packers {
			packed := pack(text)
			for _, behind := range []int{0, 1, 2, impl.FlateMax - len(packed)} {
				got, took, ok := impl.FlateGet(packed + randomText(r, behind))
				if got != text || took != len(packed) || !ok {
					t.Fatalf("%q with %d bytes behind: %q %d %v", packed, behind, got, took, ok)
				}
			}
			for _, fewer := range []int{1, 2, len(packed) / 2, len(packed)} {
				if fewer > len(packed) {
					continue
				}
				short := packed[:len(packed)-fewer]
				if got, took, ok := impl.FlateGet(short); got != "" || took != 0 || ok || impl.FlateKind(short) != -1 {
					t.Fatalf("%q: %q %d %v", short, got, took, ok)
				}
			}
		}
	}
}

func TestP23EveryBeginningOfPackedTextsIsNone(t *testing.T) {
	r := seeded(230)
	for parts := 1; parts <= 4; parts++ {
		for range 6 {
			row, text := randomRow(r, parts)
			packed := bytesOf(row)
			if got, took, ok := impl.FlateGet(packed); got != text || took != len(packed) || !ok {
				t.Fatalf("%q: %q %d %v, not %q", packed, got, took, ok, text)
			}
			for long := range len(packed) {
				if got, took, ok := impl.FlateGet(packed[:long]); got != "" || took != 0 || ok {
					t.Fatalf("the first %d bytes of %q: %q %d %v", long, packed, got, took, ok)
				}
			}
		}
	}
}

func TestP24OneByteManyTimesIsShort(t *testing.T) {
	for b := range 256 {
		text := strings.Repeat(string([]byte{byte(b)}), impl.TextMax)
		packed := impl.FlatePut(text)
		if len(packed) == 0 || len(packed) >= 30 {
			t.Errorf("%d: %d bytes", b, len(packed))
		}
		if got, _, ok := impl.FlateGet(packed); got != text || !ok {
			t.Errorf("%d: %q %v", b, got, ok)
		}
	}
}

func TestTextsThatAreTooLongAreNotPacked(t *testing.T) {
	r := seeded(500)
	for _, long := range []int{impl.TextMax + 1, impl.TextMax + 2, 700, 5000, 70000} {
		for _, text := range []string{strings.Repeat("q", long), randomText(r, long)} {
			for kind, pack := range append(packers, impl.FlatePut) {
				if got := pack(text); got != "" {
					t.Errorf("%d bytes, %d: %d bytes", long, kind, len(got))
				}
			}
		}
	}
}

func TestP65PartsOneBehindTheOther(t *testing.T) {
	r := seeded(65)
	for _, a := range []string{"", "a", "stone stone stone", randomText(r, 90), strings.Repeat("z", 150)} {
		first := []byte(impl.StorePut(a))
		first[0] = 0
		for _, b := range []string{"", "b", "beam beam beam", randomText(r, 100), strings.Repeat("y", 150)} {
			for _, pack := range append(packers, impl.FlatePut) {
				packed := string(first) + pack(b)
				if got, took, ok := impl.FlateGet(packed + "more"); got != a+b || took != len(packed) || !ok {
					t.Fatalf("%q and %q: %q %d %v", a, b, got, took, ok)
				}
				if impl.FlateKind(packed) != impl.FlateStore {
					t.Fatalf("%q: kind %d", packed, impl.FlateKind(packed))
				}
			}
		}
	}
}

// Parts that end within a byte, with all kinds behind them, and tokens that lead back into parts ahead.
func TestP65PartsThatEndWithinAByte(t *testing.T) {
	r := seeded(650)
	ends := make([]int, 8)
	for range 400 {
		row, text := randomRow(r, 1+r.Intn(5))
		ends[len(row)%8]++
		packed := bytesOf(row)
		if len(packed) > impl.FlateMax {
			continue
		}
		if why := checkGet(t, packed); why != "" {
			t.Fatalf("%q: %s", packed, why)
		}
		if got, took, ok := impl.FlateGet(packed); got != text || took != len(packed) || !ok {
			t.Fatalf("%q: %q %d %v, not %q", packed, got, took, ok, text)
		}
	}
	if slices.Min(ends) == 0 {
		t.Errorf("%v", ends)
	}
	row := fixedRow(false, bytesAsTokens("stone")) + fixedRow(false, []impl.Token{{Long: 5, Back: 5}})
	row = storeRow(row, false, "-beam") + fixedRow(true, []impl.Token{{Long: 9, Back: 15}})
	if got, took, ok := impl.FlateGet(bytesOf(row)); got != "stonestone-beamstoneston" || took != (len(row)+7)/8 || !ok {
		t.Errorf("%q %d %v", got, took, ok)
	}
}

func TestP65ManyParts(t *testing.T) {
	many := impl.FlateMax / 5
	packed := strings.Repeat("\x00\x00\x00\xff\xff", many-1) + "\x01\x00\x00\xff\xff"
	if got, took, ok := impl.FlateGet(packed); got != "" || took != impl.FlateMax || !ok {
		t.Errorf("%q %d %v", got, took, ok)
	}
	if got, took, ok := impl.FlateGet(packed[:impl.FlateMax-5] + "\x00\x00\x00\xff\xff"); got != "" || took != 0 || ok {
		t.Errorf("without a last one: %q %d %v", got, took, ok)
	}
	row := strings.Repeat(fixedRow(false, nil), 100) + fixedRow(true, bytesAsTokens("x"))
	if got, took, ok := impl.FlateGet(bytesOf(row)); got != "x" || took != (len(row)+7)/8 || !ok {
		t.Errorf("%q %d %v", got, took, ok)
	}
}

func TestFlateGetOfTooManyBytes(t *testing.T) {
	for _, pack := range packers {
		packed := pack("stone")
		for _, long := range []int{impl.FlateMax - 1, impl.FlateMax, impl.FlateMax + 1, 10 * impl.FlateMax} {
			text := packed + strings.Repeat("\x00", long-len(packed))
			checkGet(t, text)
			if _, _, ok := impl.FlateGet(text); ok != (long <= impl.FlateMax) {
				t.Errorf("%d bytes: %v", long, ok)
			}
		}
	}
}

func TestP66KindThreeAndNothing(t *testing.T) {
	for _, packed := range []string{"", "\x06", "\x07", "\x07\x00\x00\x00\x00\x00", "\x06\x02\x00\xfd\xffab", "\x07\x02\x00\xfd\xffab", "\xff\xff\xff\xff", "\x4f\x04\x00"} {
		if got, took, ok := impl.FlateGet(packed); got != "" || took != 0 || ok || impl.FlateKind(packed) != -1 {
			t.Errorf("%q: %q %d %v", packed, got, took, ok)
		}
	}
	for _, text := range []string{"", "ab", strings.Repeat("q", 50)} {
		for _, pack := range packers {
			packed := []byte(pack(text))
			packed[0] |= 6
			if got, took, ok := impl.FlateGet(string(packed)); got != "" || took != 0 || ok {
				t.Errorf("%q: %q %d %v", packed, got, took, ok)
			}
		}
		row := fixedRow(false, bytesAsTokens(text)) + headRow(true, 3) + strings.Repeat("0", 64)
		if why := checkGet(t, bytesOf(row)); why != "kind 3" {
			t.Errorf("a second part of kind 3: %q", why)
		}
	}
}

func TestP67TheKindIsHowItBegins(t *testing.T) {
	r := seeded(67)
	seen := make([]int, 3)
	for range 200 {
		row, _ := randomRow(r, 1+r.Intn(4))
		packed := bytesOf(row)
		if len(packed) > impl.FlateMax {
			continue
		}
		kind := int(row[1]-'0') + 2*int(row[2]-'0')
		if got := impl.FlateKind(packed); got != kind {
			t.Fatalf("%q: %d, not %d", packed, got, kind)
		}
		seen[kind]++
		if got := impl.FlateKind(packed[:len(packed)-1]); got != -1 {
			t.Fatalf("%q: %d", packed[:len(packed)-1], got)
		}
	}
	if slices.Min(seen) == 0 || impl.FlateStore != 0 || impl.FlateFixed != 1 || impl.FlateOwn != 2 {
		t.Errorf("%v", seen)
	}
}

func TestP85ALengthThatIsNotToldTwice(t *testing.T) {
	for _, text := range []string{"", "a", "ab", strings.Repeat("q", 255), strings.Repeat("q", 256), randomText(seeded(85), impl.TextMax)} {
		packed := impl.StorePut(text)
		for place := 1; place < 5; place++ {
			for bit := range 8 {
				b := []byte(packed + strings.Repeat("\x00", 200))
				b[place] ^= 1 << bit
				if got, took, ok := impl.FlateGet(string(b)); got != "" || took != 0 || ok {
					t.Fatalf("%q with bit %d of byte %d turned: %q %d %v", packed, bit, place, got, took, ok)
				}
			}
		}
		for _, b := range []string{packed[:3] + packed[1:3] + packed[5:], packed[:1] + packed[3:5] + packed[1:3] + packed[5:]} {
			if why := checkGet(t, b); why == "" {
				t.Fatalf("%q is unpacked", b)
			}
		}
	}
}

func TestP86PackedTwice(t *testing.T) {
	for _, text := range someTexts() {
		once := impl.FlatePut(text)
		twice := impl.FlatePut(once)
		if len(once) > impl.TextMax {
			if twice != "" {
				t.Fatalf("%q: %d bytes are packed", text, len(once))
			}
			continue
		}
		back, took, ok := impl.FlateGet(twice)
		if back != once || took != len(twice) || !ok {
			t.Fatalf("%q: %q %d %v", text, back, took, ok)
		}
		if got, _, ok := impl.FlateGet(back); got != text || !ok {
			t.Fatalf("%q: %q %v", text, got, ok)
		}
	}
}

func TestP101FiveBytesMoreAtMost(t *testing.T) {
	r := seeded(101)
	texts := someTexts()
	for long := range impl.TextMax + 1 {
		texts = append(texts, randomText(r, long))
	}
	for _, text := range texts {
		if packed := impl.FlatePut(text); len(packed) > len(text)+5 || len(packed) == 0 {
			t.Fatalf("%q: %d bytes", text, len(packed))
		}
	}
	if got := impl.FlatePut(""); len(got) != 2 {
		t.Errorf("of nothing: %q", got)
	}
}

func TestBitsThatAreLeftOfAByte(t *testing.T) {
	for bit := 3; bit < 8; bit++ {
		packed := string([]byte{1 | 1<<bit}) + "\x02\x00\xfd\xffab"
		if why := checkGet(t, packed); why != "left bits" {
			t.Errorf("ahead of a length, bit %d: %q", bit, why)
		}
	}
	r := seeded(51)
	for range 100 {
		row, _ := randomRow(r, 1+r.Intn(3))
		whole := []byte(bytesOf(row))
		if len(whole) > impl.FlateMax {
			continue
		}
		for bit := len(row); bit < 8*len(whole); bit++ {
			whole[bit/8] |= 1 << (bit % 8)
			if why := checkGet(t, string(whole)); why != "left bits" {
				t.Fatalf("%q: bit %d: %q", whole, bit, why)
			}
			whole[bit/8] &^= 1 << (bit % 8)
		}
	}
	// What is left between two parts that are packed is no rest: the next part begins there.
	row := fixedRow(false, nil) + fixedRow(true, nil)
	if got, took, ok := impl.FlateGet(bytesOf(row)); got != "" || took != 3 || !ok {
		t.Errorf("%q %d %v", got, took, ok)
	}
}

func TestUnpackedTextsAtTheirBounds(t *testing.T) {
	r := seeded(52)
	full := randomText(r, impl.TextMax)
	for _, ahead := range []int{impl.TextMax - 4, impl.TextMax - 3, impl.TextMax - 2, impl.TextMax - 1, impl.TextMax} {
		row := storeRow("", false, full[:ahead])
		for _, c := range []struct {
			row  string
			long int
		}{
			{fixedRow(true, nil), 0},
			{fixedRow(true, bytesAsTokens("x")), 1},
			{fixedRow(true, []impl.Token{{Long: 3, Back: 1}}), 3},
			{fixedRow(true, []impl.Token{{Long: 4, Back: 200}}), 4},
			{storeRow("", true, ""), 0},
			{storeRow("", true, "y"), 1},
			{storeRow("", true, "yyyy"), 4},
			{ownRow(true, bytesAsTokens("z"), append(make([]int, 122), append([]int{1}, append(make([]int, 133), 1)...)...), []int{1}, true), 1},
		} {
			why := checkGet(t, bytesOf(row+c.row))
			if (why == "") != (ahead+c.long <= impl.TextMax) {
				t.Errorf("%d bytes and %d: %q", ahead, c.long, why)
			}
		}
	}
	for _, long := range []int{impl.TextMax, impl.TextMax + 1, impl.TextMax + 100, 500} {
		why := checkGet(t, bytesOf(storeRow("", true, strings.Repeat("q", long))))
		if (why == "") != (long <= impl.TextMax) {
			t.Errorf("%d bytes: %q", long, why)
		}
	}
	if why := checkGet(t, "\x01\xff\xff\x00\x00"+strings.Repeat("q", 600)); why == "" {
		t.Error("65535 bytes")
	}
}

// All tokens that may be, and those just behind the bounds, by codes that all know.
func TestAllLengthsAndDistances(t *testing.T) {
	text := apart(255)
	begin := storeRow("", false, text)
	for _, list := range [][2]int{{1, 130}, {131, 255}} {
		for back := list[0]; back <= list[1]; back++ {
			long := 3 + back%43
			why := checkGet(t, bytesOf(begin+fixedRow(true, []impl.Token{{Long: long, Back: back}})))
			if (why == "") != (back <= impl.BackMax) {
				t.Fatalf("%d back: %q", back, why)
			}
		}
	}
	begin = storeRow("", false, text[:40])
	for long := 3; long <= 258; long++ {
		row := fixedRow(true, []impl.Token{{Long: long, Back: 1 + long%40}})
		why := checkGet(t, bytesOf(begin+row))
		if (why == "") != (long <= impl.LongMax) {
			t.Fatalf("%d again: %q", long, why)
		}
	}
	for _, back := range []int{300, 1000, 32768} {
		if why := checkGet(t, bytesOf(begin+fixedRow(true, []impl.Token{{Long: 3, Back: back}}))); why != "token" {
			t.Errorf("%d back: %q", back, why)
		}
	}
	for long := 0; long < 4; long++ {
		for back := 1; back < 6; back++ {
			why := checkGet(t, bytesOf(fixedRow(true, append(bytesAsTokens(text[:long]), impl.Token{Long: 5, Back: back}))))
			if (why == "") != (back <= long) {
				t.Errorf("%d back behind %d bytes: %q", back, long, why)
			}
		}
	}
}

func TestSymbolsThatStandForNothing(t *testing.T) {
	lits, dists := fixedLens()
	codes, far := rowsOfCodes(lits), rowsOfCodes(dists)
	begin := headRow(true, 1) + codes['a'] + codes['b'] + codes['c']
	for symbol := 257; symbol < 288; symbol++ {
		more := 0
		if symbol < 285 {
			more = litMore[symbol-257]
		}
		row := begin + codes[symbol] + rowOfNum(0, more) + far[0] + codes[256]
		why := checkGet(t, bytesOf(row))
		if (why == "") != (symbol <= 276) || (why == "length") != (symbol > 284) {
			t.Errorf("symbol %d: %q", symbol, why)
		}
	}
	for symbol := range 32 {
		more := 0
		if symbol < 30 {
			more = distMore[symbol]
		}
		row := storeRow("", false, apart(impl.BackMax)) + headRow(true, 1) + codes[257] + far[symbol] + rowOfNum(0, more) + codes[256]
		why := checkGet(t, bytesOf(row))
		if (why == "") != (symbol < 16) || (why == "distance") != (symbol > 29) {
			t.Errorf("distance %d: %q", symbol, why)
		}
	}
}

// litLens is lengths of a code of so many symbols, of which those that are named have one length, or nearly so.
func litLens(many int, named ...int) []int {
	lens := make([]int, many)
	bits := 1
	for 1<<bits < len(named) {
		bits++
	}
	spare := 1<<bits - len(named)
	slices.Sort(named)
	for i, symbol := range named {
		lens[symbol] = bits
		if i < spare && bits > 1 {
			lens[symbol] = bits - 1
		}
	}
	return lens
}

func TestLengthsThatMakeNoCode(t *testing.T) {
	good := litLens(258, 'a', 'b', 256, 257)
	tokens := append(bytesAsTokens("abab"), impl.Token{Long: 3, Back: 1})
	for i, c := range []struct {
		lits  []int
		dists []int
		ok    bool
	}{
		{good, []int{1}, true},
		{good, []int{1, 1}, true},
		{good, []int{2, 2, 2, 2}, true},
		{good, []int{1, 0, 0, 0}, true},
		{good, []int{0}, false},
		{good, []int{0, 0, 0}, false},
		{good, []int{2}, false},
		{good, []int{2, 2}, false},
		{good, []int{1, 1, 1}, false},
		{good, []int{15}, false},
		{litLens(286, 'a', 'b', 256, 257), repeated(0, 30), false},
		{litLens(286, 'a', 'b', 256, 257), append([]int{1}, make([]int, 29)...), true},
		{litLens(286, 'a', 'b', 256, 257), append([]int{1}, make([]int, 30)...), false},
		{litLens(287, 'a', 'b', 256, 257), append([]int{1}, make([]int, 29)...), false},
		{litLens(288, 'a', 'b', 256, 257), []int{1}, false},
		{litLens(257, 'a', 'b', 256), append([]int{1}, make([]int, 31)...), false},
		{append(make([]int, 256), 1, 0), []int{1}, true},
		{append(make([]int, 256), 2, 0), []int{1}, false},
		{append(make([]int, 256), 2, 2), []int{1}, false},
		{append(repeated(8, 257), 0), []int{1}, false},
		{append(repeated(9, 257), 0), []int{1}, false},
		{litLens(258, 'a', 'b', 257), []int{1}, false},
		{make([]int, 258), []int{1}, false},
	} {
		for _, gather := range []bool{false, true} {
			list := tokens
			if c.lits['a'] != 2 || c.lits[256] == 0 || len(c.lits) < 258 {
				list = nil
			}
			row := ownHeadOf(c.lits, c.dists, gather).row(true) + rowOfTokens(list, c.lits, c.dists) + strings.Repeat("0", 80)
			if why := checkGet(t, bytesOf(row)); (why == "") != c.ok {
				t.Errorf("%d: %q", i, why)
			}
		}
	}
}

func TestLengthsOfLengthsThatMakeNoCode(t *testing.T) {
	lits, dists := litLens(257, 'a', 256), []int{1}
	for i, c := range []struct {
		lens []int
		ok   bool
	}{
		{[]int{1, 1}, true},
		{[]int{2, 2, 2, 2}, true},
		{[]int{1, 2, 3, 4, 5, 6, 7, 7}, true},
		{[]int{1, 2}, false},
		{[]int{2, 2}, false},
		{[]int{2, 2, 2}, false},
		{[]int{1, 1, 1}, false},
		{[]int{1, 2, 2, 7}, false},
		{[]int{7, 7}, false},
		{[]int{1, 2, 3, 4, 5, 6, 7}, false},
	} {
		h := ownHeadOf(lits, dists, false)
		h.lens = append(c.lens, make([]int, 19-len(c.lens))...)
		row := h.row(true) + rowOfTokens(bytesAsTokens("aaa"), lits, dists) + strings.Repeat("0", 80)
		if why := checkGet(t, bytesOf(row)); (why == "") != c.ok {
			t.Errorf("%d: %v: %q", i, c.lens, why)
		}
	}
	for _, c := range []struct {
		place int
		long  int
	}{{0, 1}, {18, 1}, {18, 2}, {0, 7}, {1, 1}, {0, 0}} {
		h := ownHead{lits: 257, dists: 1, told: 19, lens: make([]int, 19)}
		h.lens[c.place] = c.long
		for _, rest := range []string{strings.Repeat("0", 400), strings.Repeat("1", 400), strings.Repeat("01", 200)} {
			if why := checkGet(t, bytesOf(h.row(true)+rest)); why == "" {
				t.Errorf("a length of lengths %v alone makes a text", c)
			}
		}
	}
}

// A length alone may have a code of its own: but that all 258 lengths are 1 is too much for a code.
func TestHowManyLengthsOfLengthsAreTold(t *testing.T) {
	lits, dists := litLens(257, 'a', 'b', 'c', 256), []int{1}
	full := ownHeadOf(lits, dists, true)
	last := 0
	for place, symbol := range lenPlaces {
		if full.lens[symbol] > 0 {
			last = place
		}
	}
	for told := 4; told <= 19; told++ {
		h := full
		h.told = told
		row := h.row(true) + rowOfTokens(bytesAsTokens("abc"), lits, dists) + strings.Repeat("0", 80)
		if why := checkGet(t, bytesOf(row)); (why == "") != (told > last) {
			t.Errorf("%d told, %d needed: %q", told, last+1, why)
		}
	}
	// All of the first four places: lengths of eights alone.
	h := ownHead{lits: 257, dists: 1, told: 5, lens: make([]int, 19)}
	h.lens[8], h.lens[18] = 1, 1
	h.rows = append(h.rows, lenRow{18, 0})
	for range 245 {
		h.rows = append(h.rows, lenRow{8, 0})
	}
	h.rows = append(h.rows, lenRow{8, 0}, lenRow{8, 0})
	if why := checkGet(t, bytesOf(h.row(true)+strings.Repeat("0", 80))); why != "code" {
		t.Errorf("%q", why)
	}
}

// againHead is a head whose lengths are told by rows, of symbols that all have a code.
func againHead(lits int, dists int, rows []lenRow) ownHead {
	return ownHead{lits: lits, dists: dists, told: 19, rows: rows, lens: litLens(19, 0, 1, 2, 3, 8, 16, 17, 18)}
}

// lensOfTold is lengths that rows tell.
func lensOfTold(rows []lenRow) []int {
	var lens []int
	for _, l := range rows {
		switch l.symbol {
		case 16:
			lens = append(lens, repeated(lens[len(lens)-1], 3+l.more)...)
		case 17:
			lens = append(lens, make([]int, 3+l.more)...)
		case 18:
			lens = append(lens, make([]int, 11+l.more)...)
		default:
			lens = append(lens, l.symbol)
		}
	}
	return lens
}

func TestALengthThatIsToldAgain(t *testing.T) {
	zeros := func(many int) []lenRow {
		var rows []lenRow
		for ; many >= 149; many -= 138 {
			rows = append(rows, lenRow{18, 127})
		}
		if many > 138 {
			rows, many = append(rows, lenRow{18, 0}), many-11
		}
		return append(rows, lenRow{18, many - 11})
	}
	ab := []lenRow{{2, 0}, {2, 0}}
	for i, c := range []struct {
		why  string
		lits int
		far  int
		rows []lenRow
	}{
		{"none ahead", 257, 1, slices.Concat([]lenRow{{16, 0}}, zeros(253), []lenRow{{1, 0}, {1, 0}})},
		{"none ahead", 257, 1, slices.Concat([]lenRow{{16, 3}}, zeros(250), []lenRow{{1, 0}, {1, 0}})},
		// A nought is a length too, that is told again.
		{"", 257, 1, slices.Concat([]lenRow{{0, 0}, {16, 0}}, zeros(252), []lenRow{{1, 0}, {1, 0}})},
		{"", 257, 1, slices.Concat([]lenRow{{17, 0}, {16, 3}}, zeros(247), []lenRow{{1, 0}, {1, 0}})},
		{"", 257, 1, slices.Concat([]lenRow{{18, 0}, {16, 1}, {17, 7}}, zeros(231), []lenRow{{1, 0}, {1, 0}})},
		{"", 260, 1, slices.Concat(zeros(256), []lenRow{{2, 0}, {16, 0}, {1, 0}})},
		{"code", 260, 1, slices.Concat(zeros(256), []lenRow{{2, 0}, {16, 1}})},
		// From those of lengths on into those of distances.
		{"", 260, 4, slices.Concat(zeros(256), []lenRow{{2, 0}, {16, 0}, {16, 1}})},
		{"", 258, 2, slices.Concat(zeros(256), []lenRow{{1, 0}, {16, 0}})},
		{"", 257, 30, slices.Concat(zeros(256), []lenRow{{1, 0}, {1, 0}, {1, 0}, {18, 17}})},
		{"", 259, 4, slices.Concat(zeros(255), []lenRow{{2, 0}, {16, 3}, {2, 0}})},
		{"code", 268, 4, slices.Concat(zeros(256), []lenRow{{1, 0}, {18, 4}})},
		{"", 262, 3, slices.Concat(zeros(256), []lenRow{{1, 0}, {17, 4}, {1, 0}})},
		// One more than told, and many more.
		{"more lengths", 257, 1, slices.Concat(zeros(255), ab, []lenRow{{16, 0}})},
		{"more lengths", 258, 1, slices.Concat(zeros(256), []lenRow{{1, 0}, {16, 0}})},
		{"more lengths", 257, 2, slices.Concat(zeros(256), []lenRow{{1, 0}, {17, 0}})},
		{"more lengths", 257, 11, slices.Concat(zeros(256), []lenRow{{1, 0}, {18, 1}})},
		{"more lengths", 257, 1, slices.Concat(zeros(256), []lenRow{{1, 0}, {18, 127}})},
		{"code", 257, 11, slices.Concat(zeros(256), []lenRow{{1, 0}, {18, 0}})},
		{"code", 257, 3, slices.Concat(zeros(256), []lenRow{{1, 0}, {17, 0}})},
	} {
		row := againHead(c.lits, c.far, c.rows).row(true)
		if c.why == "" {
			row += rowsOfCodes(lensOfTold(c.rows)[:c.lits])[256]
		} else {
			row += strings.Repeat("0", 80)
		}
		if why := checkGet(t, bytesOf(row)); why != c.why {
			t.Errorf("%d: %q, not %q", i, why, c.why)
		}
	}
}

func TestASymbolWithoutACode(t *testing.T) {
	lits := litLens(258, 'a', 'b', 256, 257)
	codes := rowsOfCodes(lits)
	for _, dists := range [][]int{{1}, {0, 1}, {0, 0, 1}} {
		head := ownHeadOf(lits, dists, true).row(true) + codes['a'] + codes['b'] + codes['a'] + codes[257]
		if why := checkGet(t, bytesOf(head+"0"+codes[256])); why != "" {
			t.Errorf("%v: %q", dists, why)
		}
		if why := checkGet(t, bytesOf(head+"1"+codes[256]+strings.Repeat("0", 40))); why != "no code" {
			t.Errorf("%v: %q", dists, why)
		}
	}
	// But one symbol, and that the end.
	alone := append(make([]int, 256), 1)
	head := ownHeadOf(alone, []int{1}, true).row(true)
	if why := checkGet(t, bytesOf(head+"0")); why != "" {
		t.Errorf("the end alone: %q", why)
	}
	if why := checkGet(t, bytesOf(head+"1"+strings.Repeat("0", 40))); why != "no code" {
		t.Errorf("no end: %q", why)
	}
	// But one symbol, and that a byte: it never ends.
	alone = append([]int{1}, make([]int, 256)...)
	if why := checkGet(t, bytesOf(ownHeadOf(alone, []int{1}, true).row(true)+strings.Repeat("0", 2000))); why == "" {
		t.Error("a text without an end")
	}
}

// What others pack is unpacked, unless it has tokens that may not be.
func TestWhatOthersPack(t *testing.T) {
	got := 0
	for level := flate.HuffmanOnly; level <= flate.BestCompression; level++ {
		var b bytes.Buffer
		w, err := flate.NewWriter(&b, level)
		if err != nil {
			t.Fatal(err)
		}
		for _, text := range someTexts() {
			b.Reset()
			w.Reset(&b)
			half := len(text) / 2
			w.Write([]byte(text[:half]))
			if len(text)%2 == 0 {
				w.Flush()
			}
			w.Write([]byte(text[half:]))
			w.Close()
			if b.Len() <= impl.FlateMax && checkGet(t, b.String()) == "" {
				got++
			}
		}
	}
	if got < 1000 {
		t.Errorf("but %d were unpacked", got)
	}
}

// Packed texts with some bits turned, cut, or put in, and no packed texts at all.
func TestFlateGetOfAnything(t *testing.T) {
	r := seeded(53)
	seen := map[string]int{}
	for range 1500 {
		row, _ := randomRow(r, 1+r.Intn(3))
		for range 6 {
			b := []byte(row)
			for range r.Intn(3) {
				b[r.Intn(min(len(b), 40+r.Intn(len(b))))] ^= 1
			}
			if r.Intn(3) == 0 {
				place := r.Intn(len(b))
				b = slices.Delete(b, place, min(len(b), place+1+r.Intn(3)))
			}
			if r.Intn(3) == 0 {
				b = slices.Insert(b, r.Intn(len(b)+1), byte('0'+r.Intn(2)))
			}
			if len(b) <= 8*impl.FlateMax {
				seen[checkGet(t, bytesOf(string(b)))]++
			}
		}
	}
	for range 3000 {
		seen[checkGet(t, randomText(r, r.Intn(60)))]++
	}
	for _, why := range []string{"", "short", "left bits", "code", "no code", "length", "distance", "token", "too many", "more lengths", "told twice", "kind 3"} {
		if seen[why] == 0 {
			t.Errorf("never: %q; %v", why, seen)
		}
	}
}
