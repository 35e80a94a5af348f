// Package word is layer 1: numbers of 64 bits, and of 32: see shared/doc/01-word.md.
package word

import "math/bits"

// Operations: the four high bits of opcodes.
const (
	Add  = 0x00
	Sub  = 0x10
	Mul  = 0x20
	Div  = 0x30
	Or   = 0x40
	And  = 0x50
	Lsh  = 0x60
	Rsh  = 0x70
	Neg  = 0x80
	Mod  = 0x90
	Xor  = 0xA0
	Mov  = 0xB0
	Arsh = 0xC0
)

// Comparisons: likewise.
const (
	Ja   = 0x00
	Jeq  = 0x10
	Jgt  = 0x20
	Jge  = 0x30
	Jset = 0x40
	Jne  = 0x50
	Jsgt = 0x60
	Jsge = 0x70
	Jlt  = 0xA0
	Jle  = 0xB0
	Jslt = 0xC0
	Jsle = 0xD0
)

// number is what operations and comparisons work on: a type for each width.
type number interface{ uint32 | uint64 }

// signed is the numbers of the same widths, as two's complement.
type signed interface{ int32 | int64 }

// Alu is what an operation makes of two numbers, as numbers of 64 bits if wide, else of 32; false if there is no such operation.
func Alu(op int, wide bool, a, b uint64) (uint64, bool) {
	if wide {
		return operate[uint64, int64](op, a, b)
	}
	v, ok := operate[uint32, int32](op, uint32(a), uint32(b))
	return uint64(v), ok
}

// Jump tells whether a comparison holds, of numbers of 64 bits if wide, else of 32; the second result is false if there is no such comparison.
func Jump(op int, wide bool, a, b uint64) (bool, bool) {
	if wide {
		return compare[uint64, int64](op, a, b)
	}
	return compare[uint32, int32](op, uint32(a), uint32(b))
}

// operate is Alu at the width of N; S is N's signed numbers.
func operate[N number, S signed](op int, a, b N) (N, bool) {
	switch op {
	case Add:
		return a + b, true
	case Sub:
		return a - b, true
	case Mul:
		return a * b, true
	case Div:
		return quotient(a, b), true
	case Or:
		return a | b, true
	case And:
		return a & b, true
	case Lsh:
		return a << count(b), true
	case Rsh:
		return a >> count(b), true
	case Neg:
		return -a, true
	case Mod:
		return remainder(a, b), true
	case Xor:
		return a ^ b, true
	case Mov:
		return b, true
	case Arsh:
		return N(S(a) >> count(b)), true
	}
	return 0, false
}

// quotient is a divided by b, and 0 where Go's division would panic.
func quotient[N number](a, b N) N {
	if b == 0 {
		return 0
	}
	return a / b
}

// remainder is a modulo b, and a where Go's remainder would panic.
func remainder[N number](a, b N) N {
	if b == 0 {
		return a
	}
	return a % b
}

// count is how far a shift by b goes: Go's shifts do not wrap at the width, those of instructions do.
func count[N number](b N) N {
	return b % N(bits.Len64(uint64(^N(0))))
}

// compare is Jump at the width of N; S is N's signed numbers.
func compare[N number, S signed](op int, a, b N) (bool, bool) {
	switch op {
	case Jeq:
		return a == b, true
	case Jgt:
		return a > b, true
	case Jge:
		return a >= b, true
	case Jset:
		return a&b != 0, true
	case Jne:
		return a != b, true
	case Jsgt:
		return S(a) > S(b), true
	case Jsge:
		return S(a) >= S(b), true
	case Jlt:
		return a < b, true
	case Jle:
		return a <= b, true
	case Jslt:
		return S(a) < S(b), true
	case Jsle:
		return S(a) <= S(b), true
	}
	return false, false
}
