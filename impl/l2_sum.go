package impl

// Numbers that sums are made by.
const (
	crcTurned  = 0xEDB88320
	sumFull    = 0xFFFFFFFF
	sumLongMax = 100000
	halfFull   = 0xFFFF
	adlerBase  = 65521
)

// sumState is a sum on its way through a text.
type sumState interface {
	add(b byte)
	told() int
}

// crcState is a CRC-32 on its way: all bits of it are turned until it is told.
type crcState struct {
	rest  uint32
	table func(half uint32) uint32
}

// add goes on by a byte, half a byte at a time.
func (c *crcState) add(b byte) {
	c.rest ^= uint32(b)
	c.rest = c.table(c.rest&15) ^ c.rest>>4
	c.rest = c.table(c.rest&15) ^ c.rest>>4
}

// told is the sum up to here.
func (c *crcState) told() int {
	return int(c.rest ^ sumFull)
}

// crcShift does steps: half of it, and the polynomial into it, if it was odd.
func crcShift(rest uint32, steps int) uint32 {
	for range steps {
		if rest&1 == 1 {
			rest = rest>>1 ^ crcTurned
		} else {
			rest >>= 1
		}
	}
	return rest
}

// crcTable makes the table, once for all bytes of a text. It is of half bytes,
// so that it costs little to make it in each call: none keeps it for the next.
func crcTable() func(half uint32) uint32 {
	var table [16]uint32
	for i := range table {
		table[i] = crcShift(uint32(i), 4)
	}
	return func(half uint32) uint32 { return table[half] }
}

// adlerState is an Adler-32 on its way.
type adlerState struct {
	low  int
	high int
}

// add goes on by a byte.
func (a *adlerState) add(b byte) {
	a.low = (a.low + int(b)) % adlerBase
	a.high = (a.high + a.low) % adlerBase
}

// told is the sum up to here.
func (a *adlerState) told() int {
	return a.high<<16 | a.low
}

// sumOf leads a text through a sum.
func sumOf(s sumState, text string) int {
	for i := range len(text) {
		s.add(text[i])
	}
	return s.told()
}

// sumOk says whether a number has 32 bits.
func sumOk(n int) bool {
	return n >= 0 && n <= sumFull
}

// sumLongOk says whether a text may be so long to be joined.
func sumLongOk(long int) bool {
	return long >= 0 && long <= sumLongMax
}

// adlerOk says whether a number may be an Adler-32.
func adlerOk(n int) bool {
	return sumOk(n) && n&halfFull < adlerBase && n>>16 < adlerBase
}

// Crc is the CRC-32 of a text.
func Crc(text string) int {
	return CrcMore(0, text)
}

// CrcMore is the CRC-32 of a text of which one is known, and another one behind it.
func CrcMore(crc int, text string) int {
	if !sumOk(crc) {
		return -1
	}
	return sumOf(&crcState{rest: uint32(crc) ^ sumFull, table: crcTable()}, text)
}

// CrcJoin is the CRC-32 of two texts, by that of each, and how long the second is.
func CrcJoin(a int, b int, long int) int {
	if !sumOk(a) || !sumOk(b) || !sumLongOk(long) {
		return -1
	}
	return int(crcShift(uint32(a), 8*long) ^ uint32(b))
}

// Adler is the Adler-32 of a text.
func Adler(text string) int {
	return sumOf(&adlerState{low: 1}, text)
}

// AdlerJoin is the Adler-32 of two texts, by that of each, and how long the second is.
func AdlerJoin(a int, b int, long int) int {
	if !adlerOk(a) || !adlerOk(b) || !sumLongOk(long) {
		return -1
	}
	// One less than a lower half of 0 is below 0: the base on top keeps what is left of it above.
	less := a&halfFull + adlerBase - 1
	low := (less + b&halfFull) % adlerBase
	high := (a>>16 + b>>16 + long*less) % adlerBase
	return high<<16 | low
}
