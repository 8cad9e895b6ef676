package tests

import (
	"fmt"
	"strings"
	"testing"

	"loop.example/corbel/impl"
)

func bytesNeeded(bits int) int {
	return (bits + 7) / 8
}

// checkReadBack holds BitsPut, BitsGet and BitsLong of a list against its row of signs.
func checkReadBack(t *testing.T, list []impl.Piece) {
	t.Helper()
	row := rowOf(list)
	text := impl.BitsPut(list)
	if text != bytesOf(row) {
		t.Fatalf("BitsPut of %d pieces: %q, not %q", len(list), text, bytesOf(row))
	}
	if long := impl.BitsLong(list); long != len(row) || len(text) != bytesNeeded(long) {
		t.Fatalf("BitsLong of %d pieces: %d, not %d; %d bytes", len(list), long, len(row), len(text))
	}
	nums, ok := impl.BitsGet(text, bitsOf(list))
	if !ok || !same(nums, numsOf(list)) {
		t.Fatalf("BitsGet: %v %v, not %v", nums, ok, numsOf(list))
	}
}

func TestP01NumbersAreReadBack(t *testing.T) {
	r := seeded(1)
	checkReadBack(t, nil)
	for many := range 60 {
		checkReadBack(t, randomPieces(r, many))
	}
	for bits := 0; bits <= impl.BitMax; bits++ {
		checkReadBack(t, []impl.Piece{{Num: 0, Bits: bits}, {Num: 1<<bits - 1, Bits: bits}})
	}
	checkReadBack(t, randomPieces(r, pieceMany))
	checkReadBack(t, repeated(impl.Piece{Num: 65535, Bits: impl.BitMax}, pieceMany))
}

func TestP01OneMoreThanMayBe(t *testing.T) {
	for _, p := range []impl.Piece{{}, {Num: 1, Bits: 1}, {Num: 65535, Bits: impl.BitMax}} {
		list := repeated(p, pieceMany+1)
		if s := impl.BitsPut(list); s != "" {
			t.Errorf("%v: %d bytes are written", p, len(s))
		}
		if n := impl.BitsLong(list); n != -1 {
			t.Errorf("%v: BitsLong is %d", p, n)
		}
		text := strings.Repeat("\x00", bytesNeeded((pieceMany+1)*p.Bits))
		if x, ok := impl.BitsGet(text, bitsOf(list)); ok || len(x) != 0 {
			t.Errorf("%v: %d numbers are read, %v", p, len(x), ok)
		}
	}
}

func TestP02WhatIsReadIsWrittenSo(t *testing.T) {
	for b := range 256 {
		text := string([]byte{byte(b)})
		for first := 0; first <= 8; first++ {
			for second := 0; first+second <= 8; second++ {
				bits := []int{first, second}
				nums, ok := impl.BitsGet(text, bits)
				if ok != (b < 1<<(first+second) && first+second > 0) {
					t.Fatalf("BitsGet of %q by %v is %v", text, bits, ok)
				}
				if !ok {
					if len(nums) != 0 {
						t.Fatalf("numbers beside a false: %v", nums)
					}
					continue
				}
				if s := impl.BitsPut([]impl.Piece{{Num: nums[0], Bits: first}, {Num: nums[1], Bits: second}}); s != text {
					t.Fatalf("%q by %v is read as %v, written as %q", text, bits, nums, s)
				}
			}
		}
	}
	if x, ok := impl.BitsGet("", nil); !ok || len(x) != 0 {
		t.Errorf("nothing of nothing: %v %v", x, ok)
	}
	if x, ok := impl.BitsGet("", []int{0, 0}); !ok || !same(x, []int{0, 0}) {
		t.Errorf("numbers of no bits of nothing: %v %v", x, ok)
	}
}

func TestP02LongTexts(t *testing.T) {
	r := seeded(2)
	for range 300 {
		text := randomText(r, r.Intn(40))
		var bits []int
		for left := 8 * len(text); left > 0; {
			n := min(r.Intn(impl.BitMax+1), left)
			bits = append(bits, n)
			left -= n
		}
		nums, ok := impl.BitsGet(text, bits)
		if !ok || len(nums) != len(bits) {
			t.Fatalf("%q by %v is not read", text, bits)
		}
		var list []impl.Piece
		for i := range nums {
			list = append(list, impl.Piece{Num: nums[i], Bits: bits[i]})
		}
		if s := impl.BitsPut(list); s != text {
			t.Fatalf("%q by %v is written as %q", text, bits, s)
		}
	}
}

func TestP02BitsThatMayNotBe(t *testing.T) {
	for _, n := range append([]int{17, 18, 32, 64, 65}, oddNumbers...) {
		for _, text := range []string{"", "\x00", "\x00\x00", "\x00\x00\x00", strings.Repeat("\x00", 9)} {
			if x, ok := impl.BitsGet(text, []int{n}); ok || len(x) != 0 {
				t.Errorf("%d bits of %q are read: %v %v", n, text, x, ok)
			}
			if x, ok := impl.BitsGet(text, []int{8, n, 8}); ok || len(x) != 0 {
				t.Errorf("8, %d, 8 bits of %q are read: %v %v", n, text, x, ok)
			}
		}
	}
	if x, ok := impl.BitsGet("\x00", []int{16, -8}); ok || len(x) != 0 {
		t.Errorf("bits below 0 make up for others: %v", x)
	}
}

func TestP03TurnedTwice(t *testing.T) {
	for bits := 0; bits <= impl.BitMax; bits++ {
		for num := range 1 << bits {
			turned := impl.BitsTurn(num, bits)
			if back := impl.BitsTurn(turned, bits); back != num {
				t.Fatalf("%d of %d bits, turned twice, is %d", num, bits, back)
			}
			// The row of a number begins with its lowest bit, its digits by twos with the highest.
			if bits > 0 && fmt.Sprintf("%0*b", bits, turned) != rowOf([]impl.Piece{{Num: num, Bits: bits}}) {
				t.Fatalf("%d of %d bits, turned, is %d", num, bits, turned)
			}
		}
	}
	if n := impl.BitsTurn(0, 0); n != 0 {
		t.Errorf("no bits, turned, are %d", n)
	}
}

func TestP04ListsOneBehindTheOther(t *testing.T) {
	r := seeded(4)
	for many := range 100 {
		a, b := randomPieces(r, many), randomPieces(r, r.Intn(20))
		left := (8 - len(rowOf(a))%8) % 8
		a = append(a, impl.Piece{Num: r.Intn(1 << left), Bits: left})
		if both := impl.BitsPut(append(a[:len(a):len(a)], b...)); both != impl.BitsPut(a)+impl.BitsPut(b) {
			t.Fatalf("%v, %v: %q", a, b, both)
		}
	}
}

func TestP51NoBitsAreNothing(t *testing.T) {
	r := seeded(51)
	for many := range 50 {
		list := randomPieces(r, many)
		var wide []impl.Piece
		for _, p := range list {
			wide = append(wide, repeated(impl.Piece{}, r.Intn(3))...)
			wide = append(wide, p)
		}
		wide = append(wide, impl.Piece{})
		if impl.BitsPut(wide) != impl.BitsPut(list) || impl.BitsLong(wide) != impl.BitsLong(list) {
			t.Fatalf("%v is not as %v", wide, list)
		}
	}
	if s := impl.BitsPut(repeated(impl.Piece{}, pieceMany)); s != "" {
		t.Errorf("no bits are %q", s)
	}
	if n := impl.BitsLong(repeated(impl.Piece{}, pieceMany)); n != 0 {
		t.Errorf("no bits are %d", n)
	}
}

func TestP52LowerAndUpperBits(t *testing.T) {
	r := seeded(52)
	for many := range 50 {
		list := randomPieces(r, many)
		var halves []impl.Piece
		for _, p := range list {
			low := r.Intn(p.Bits + 1)
			halves = append(halves, impl.Piece{Num: p.Num % (1 << low), Bits: low}, impl.Piece{Num: p.Num >> low, Bits: p.Bits - low})
		}
		if impl.BitsPut(halves) != impl.BitsPut(list) || impl.BitsLong(halves) != impl.BitsLong(list) {
			t.Fatalf("%v is not as %v", halves, list)
		}
	}
}

// badPieces are pieces that are not ok.
func badPieces() []impl.Piece {
	list := []impl.Piece{{Num: 0, Bits: 17}, {Num: 1, Bits: 17}, {Num: 0, Bits: 64}}
	for bits := 0; bits <= impl.BitMax; bits++ {
		list = append(list, impl.Piece{Num: 1 << bits, Bits: bits}, impl.Piece{Num: -1, Bits: bits})
	}
	for _, n := range oddNumbers {
		list = append(list, impl.Piece{Num: n, Bits: impl.BitMax}, impl.Piece{Num: 0, Bits: n}, impl.Piece{Num: n, Bits: n})
	}
	return list
}

func TestP53WhatIsTooGreatIsNotWritten(t *testing.T) {
	fine := impl.Piece{Num: 3, Bits: 8}
	for _, p := range badPieces() {
		for _, list := range [][]impl.Piece{{p}, {p, fine}, {fine, p}, {fine, p, fine}} {
			if s := impl.BitsPut(list); s != "" {
				t.Errorf("BitsPut of %v is %q", list, s)
			}
			if n := impl.BitsLong(list); n != -1 {
				t.Errorf("BitsLong of %v is %d", list, n)
			}
		}
		if n := impl.BitsTurn(p.Num, p.Bits); n != -1 {
			t.Errorf("BitsTurn of %v is %d", p, n)
		}
	}
}

func TestP75AByteFewerOrMore(t *testing.T) {
	r := seeded(75)
	for many := 1; many < 100; many++ {
		list := randomPieces(r, many)
		text := impl.BitsPut(list)
		tries := []string{text + "\x00", text + "\x01", "\x00" + text}
		if text != "" {
			tries = append(tries, text[:len(text)-1], text[1:])
		}
		for _, s := range tries {
			if x, ok := impl.BitsGet(s, bitsOf(list)); ok || len(x) != 0 {
				t.Fatalf("%q is read as %v: %v", s, bitsOf(list), x)
			}
		}
	}
	for _, s := range []string{"\x00", "\x00\x00"} {
		if _, ok := impl.BitsGet(s, nil); ok {
			t.Errorf("%q is read as no numbers", s)
		}
	}
}

func TestP75BitsLeftThatAreNotNought(t *testing.T) {
	for bits := 1; bits <= 15; bits++ {
		text := []byte(impl.BitsPut([]impl.Piece{{Num: 1<<bits - 1, Bits: bits}}))
		for left := bits; left < 8*len(text); left++ {
			spoilt := append([]byte(nil), text...)
			spoilt[left/8] |= 1 << (left % 8)
			if x, ok := impl.BitsGet(string(spoilt), []int{bits}); ok || len(x) != 0 {
				t.Errorf("%q is read as %d bits: %v", spoilt, bits, x)
			}
		}
	}
}

func TestP76NumbersOfEightBitsAreBytes(t *testing.T) {
	var all []impl.Piece
	var want []byte
	for b := range 256 {
		all = append(all, impl.Piece{Num: b, Bits: 8})
		want = append(want, byte(b))
	}
	if s := impl.BitsPut(all); s != string(want) {
		t.Errorf("%q", s)
	}
	x, ok := impl.BitsGet(string(want), bitsOf(all))
	if !ok || !same(x, numsOf(all)) {
		t.Errorf("%v %v", x, ok)
	}
}

func TestP77AllNumbersTurned(t *testing.T) {
	for bits := 0; bits <= impl.BitMax; bits++ {
		seen := make([]bool, 1<<bits)
		for num := range 1 << bits {
			turned := impl.BitsTurn(num, bits)
			if turned < 0 || turned >= 1<<bits || seen[turned] {
				t.Fatalf("%d of %d bits, turned, is %d", num, bits, turned)
			}
			seen[turned] = true
		}
	}
}
