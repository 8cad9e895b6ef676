package tests

import (
	"hash/adler32"
	"hash/crc32"
	"math/rand"
	"strings"
	"testing"

	"loop.example/corbel/impl"
)

const (
	longMany = 100000
	full     = 1<<32 - 1
	base     = 65521
)

// sumTexts are texts of many lengths, that of none and long ones among them.
func sumTexts(r *rand.Rand) []string {
	list := []string{"", "\x00", "\xff", "a", "abc", "123456789", "Wikipedia", "\x00\x00\x00\x00", strings.Repeat("\xff", 6000), strings.Repeat("\x00", longMany)}
	for b := range 256 {
		list = append(list, string([]byte{byte(b)}))
	}
	for long := range 80 {
		list = append(list, randomText(r, long))
	}
	return append(list, randomText(r, 20000), randomText(r, longMany))
}

func TestP05TheSumThatIsKnown(t *testing.T) {
	for _, c := range []struct {
		text string
		want int
	}{{"123456789", 3421780262}, {"", 0}, {"abc", 891568578}} {
		if n := impl.Crc(c.text); n != c.want {
			t.Errorf("%q: %d", c.text, n)
		}
	}
	for _, s := range sumTexts(seeded(5)) {
		if n := impl.Crc(s); n != int(crc32.ChecksumIEEE([]byte(s))) {
			t.Fatalf("%.20q: %d", s, n)
		}
	}
}

func TestP06ASumGoesOn(t *testing.T) {
	r := seeded(6)
	for range 200 {
		a, b := randomText(r, r.Intn(40)), randomText(r, r.Intn(40))
		if n := impl.CrcMore(impl.Crc(a), b); n != impl.Crc(a+b) {
			t.Fatalf("%q, %q: %d", a, b, n)
		}
	}
	for _, n := range []int{0, 1, 12345, full} {
		if x := impl.CrcMore(n, ""); x != n {
			t.Errorf("%d with nothing is %d", n, x)
		}
		if x := impl.CrcMore(n, "abc"); x != int(crc32.Update(uint32(n), crc32.IEEETable, []byte("abc"))) {
			t.Errorf("%d with abc is %d", n, x)
		}
	}
}

func TestP07SumsOfTwo(t *testing.T) {
	r := seeded(7)
	a := "what was"
	for _, b := range sumTexts(r) {
		if n := impl.CrcJoin(impl.Crc(a), impl.Crc(b), len(b)); n != impl.Crc(a+b) {
			t.Fatalf("a text and one of %d bytes: %d", len(b), n)
		}
	}
	for range 200 {
		a, b := randomText(r, r.Intn(40)), randomText(r, r.Intn(40))
		if n := impl.CrcJoin(impl.Crc(a), impl.Crc(b), len(b)); n != impl.Crc(a+b) {
			t.Fatalf("%q, %q: %d", a, b, n)
		}
	}
	if n := impl.CrcJoin(0xF0F0F0F0, 0xFF00FF00, 0); n != 0x0FF00FF0 {
		t.Errorf("with no length: %x", n)
	}
	if n := impl.CrcJoin(1, 0, 1); n != int(crc32.IEEETable[1]) {
		t.Errorf("one bit, shifted by a byte: %x", n)
	}
}

func TestP07WhatIsNotJoined(t *testing.T) {
	for _, n := range append([]int{full + 1, full + 2}, oddNumbers...) {
		for _, x := range []int{impl.CrcJoin(n, 0, 0), impl.CrcJoin(0, n, 0), impl.CrcJoin(n, n, 3), impl.CrcJoin(0, 0, n)} {
			if x != -1 {
				t.Errorf("CrcJoin with %d is %d", n, x)
			}
		}
	}
	if n := impl.CrcJoin(full, full, 0); n != 0 {
		t.Errorf("the greatest numbers: %d", n)
	}
	if n := impl.CrcJoin(0, 7, longMany); n != 7 {
		t.Errorf("the greatest length: %d", n)
	}
	if n := impl.CrcJoin(0, 7, longMany+1); n != -1 {
		t.Errorf("one more than the greatest length: %d", n)
	}
}

func TestP08OneByteApart(t *testing.T) {
	r := seeded(8)
	for long := 1; long < 30; long++ {
		text := []byte(randomText(r, long))
		sum := impl.Crc(string(text))
		place := r.Intn(long)
		was := text[place]
		for b := range 256 {
			text[place] = byte(b)
			if (impl.Crc(string(text)) == sum) != (byte(b) == was) {
				t.Fatalf("%q and %d at %d", text, was, place)
			}
		}
	}
}

func TestP09AdlerOfTwo(t *testing.T) {
	for _, c := range []struct {
		text string
		want int
	}{{"Wikipedia", 300286872}, {"", 1}, {"abc", 38600999}} {
		if n := impl.Adler(c.text); n != c.want {
			t.Errorf("%q: %d", c.text, n)
		}
	}
	a := impl.Adler("what was")
	for _, b := range sumTexts(seeded(9)) {
		if n := impl.Adler(b); n != int(adler32.Checksum([]byte(b))) {
			t.Fatalf("%.20q: %d", b, n)
		}
		if n := impl.AdlerJoin(a, impl.Adler(b), len(b)); n != impl.Adler("what was"+b) {
			t.Fatalf("a text and one of %d bytes: %d", len(b), n)
		}
		if n := impl.AdlerJoin(impl.Adler(b), a, len("what was")); n != impl.Adler(b+"what was") {
			t.Fatalf("one of %d bytes and a text: %d", len(b), n)
		}
	}
}

func TestP10WhatIsNotJoined(t *testing.T) {
	bad := append([]int{full, full + 1, base, base<<16 | 1, base<<16 | base, 65535, 65535 << 16}, oddNumbers...)
	for _, n := range bad {
		for _, x := range []int{impl.AdlerJoin(n, 1, 0), impl.AdlerJoin(1, n, 0), impl.AdlerJoin(n, n, 5)} {
			if x != -1 {
				t.Errorf("AdlerJoin with %d is %d", n, x)
			}
		}
	}
	for _, long := range append([]int{longMany + 1}, oddNumbers...) {
		if x := impl.AdlerJoin(1, 1, long); x != -1 {
			t.Errorf("AdlerJoin with the length %d is %d", long, x)
		}
	}
}

func TestP10WhatIsJoinedIsASum(t *testing.T) {
	halves := []int{0, 1, 2, 255, 32768, base - 2, base - 1}
	longs := []int{0, 1, 2, base - 1, base, longMany}
	for _, aLow := range halves {
		for _, aHigh := range halves {
			a := aHigh<<16 | aLow
			if x := impl.AdlerJoin(a, 1, 0); x != a {
				t.Errorf("%d with 1 and no length is %d", a, x)
			}
			for _, bLow := range halves {
				for _, bHigh := range halves {
					for _, long := range longs {
						low := ((aLow+bLow-1)%base + base) % base
						high := ((aHigh+bHigh+long*(aLow-1))%base + base) % base
						if x := impl.AdlerJoin(a, bHigh<<16|bLow, long); x != high<<16|low {
							t.Fatalf("%d:%d, %d:%d, %d: %d:%d, not %d:%d", aHigh, aLow, bHigh, bLow, long, x>>16, x&65535, high, low)
						}
					}
				}
			}
		}
	}
}

func TestP54P55SumsOfThree(t *testing.T) {
	r := seeded(54)
	for range 200 {
		a, b, c := randomText(r, r.Intn(50)), randomText(r, r.Intn(50)), randomText(r, r.Intn(50))
		x, y, z := impl.Crc(a), impl.Crc(b), impl.Crc(c)
		first := impl.CrcJoin(impl.CrcJoin(x, y, len(b)), z, len(c))
		last := impl.CrcJoin(x, impl.CrcJoin(y, z, len(c)), len(b)+len(c))
		if first != last || first != impl.Crc(a+b+c) {
			t.Fatalf("CrcJoin of %q, %q, %q: %d, %d", a, b, c, first, last)
		}
		x, y, z = impl.Adler(a), impl.Adler(b), impl.Adler(c)
		first = impl.AdlerJoin(impl.AdlerJoin(x, y, len(b)), z, len(c))
		last = impl.AdlerJoin(x, impl.AdlerJoin(y, z, len(c)), len(b)+len(c))
		if first != last || first != impl.Adler(a+b+c) {
			t.Fatalf("AdlerJoin of %q, %q, %q: %d, %d", a, b, c, first, last)
		}
	}
}

func TestP56AByteMoreIsAStepMore(t *testing.T) {
	r := seeded(56)
	text := []byte(strings.Repeat("\xff", 300))
	low, high := 1, 0
	for range text {
		low = (low + 255) % base
		high = (high + low) % base
	}
	for range 600 {
		if n := impl.Adler(string(text)); n != high<<16|low {
			t.Fatalf("%d bytes: %d, not %d", len(text), n, high<<16|low)
		}
		b := byte(r.Intn(256))
		text = append(text, b)
		low = (low + int(b)) % base
		high = (high + low) % base
	}
}

func TestP78ATextAndItsSum(t *testing.T) {
	for _, s := range sumTexts(seeded(78)) {
		n := impl.Crc(s)
		if x := impl.Crc(s + string([]byte{byte(n), byte(n >> 8), byte(n >> 16), byte(n >> 24)})); x != 558161692 {
			t.Fatalf("%.20q and %d: %d", s, n, x)
		}
	}
}

func TestP79WhatIsNoNumberHasNoSum(t *testing.T) {
	for _, n := range append([]int{full + 1, full + 2}, oddNumbers...) {
		for _, s := range []string{"", "a", "some text"} {
			if x := impl.CrcMore(n, s); x != -1 {
				t.Errorf("CrcMore of %d and %q is %d", n, s, x)
			}
		}
	}
	for _, s := range sumTexts(seeded(79)) {
		if impl.CrcMore(0, s) != impl.Crc(s) {
			t.Fatalf("CrcMore of 0 and %.20q", s)
		}
	}
	if n := impl.CrcMore(full, ""); n != full {
		t.Errorf("CrcMore of the greatest number: %d", n)
	}
}
