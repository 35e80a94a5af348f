package word

import mathbits "math/bits"

// Swap is a number truncated to 16, 32 or 64 bits, its bytes in reverse order if big; false if there are to be any other number of bits.
func Swap(bits int, big bool, a uint64) (uint64, bool) {
	switch bits {
	case 16, 32, 64:
	default:
		return 0, false
	}
	spare := 64 - bits
	if big {
		// What is spare comes out lowest when all eight bytes are turned round.
		return mathbits.ReverseBytes64(a) >> spare, true
	}
	return a << spare >> spare, true
}

// Get is the number that size bytes are from index at on, the lowest byte first; false if they are not there, or there is no such size.
func Get(b []byte, at, size int) (uint64, bool) {
	if !fits(len(b), at, size) {
		return 0, false
	}
	var v uint64
	for i := range size {
		v |= uint64(b[at+i]) << (8 * i)
	}
	return v, true
}

// Put lays a number's lowest size bytes from index at on, the lowest first; false, and nothing is laid, where Get has none.
func Put(b []byte, at, size int, v uint64) bool {
	if !fits(len(b), at, size) {
		return false
	}
	for i := range size {
		b[at+i] = byte(v >> (8 * i))
	}
	return true
}

// fits tells whether a number of that size lies at that index of that many bytes.
func fits(length, at, size int) bool {
	switch size {
	case 1, 2, 4, 8:
		// at + size could wrap round where at is very large.
		return at >= 0 && at <= length-size
	}
	return false
}
