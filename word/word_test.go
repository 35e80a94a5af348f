package word_test

import (
	"math"
	"math/big"
	"testing"

	"crossbar/word"
)

var operations = []int{
	word.Add, word.Sub, word.Mul, word.Div, word.Or, word.And, word.Lsh,
	word.Rsh, word.Neg, word.Mod, word.Xor, word.Mov, word.Arsh,
}

var comparisons = []int{
	word.Jeq, word.Jgt, word.Jge, word.Jset, word.Jne, word.Jsgt,
	word.Jsge, word.Jlt, word.Jle, word.Jslt, word.Jsle,
}

// numbers are those round the edges of both widths, shift counts among them.
var numbers = []uint64{
	0, 1, 2, 3, 5, 7, 10, 16, 31, 32, 33, 63, 64, 65, 95, 96, 127, 128, 0xFF,
	0xFFFF, 1<<31 - 1, 1 << 31, 1<<31 + 1, 1<<32 - 2, 1<<32 - 1, 1 << 32,
	1<<32 + 1, 1<<32 + 7, 1<<32 + 31, 1<<32 + 32, 1<<33 - 1, 3 << 31, 1<<63 - 1,
	1 << 63, 1<<63 + 1, 1<<63 + 1<<31, 0x0123456789ABCDEF, 0xFEDCBA9876543210,
	math.MaxUint64 - 1<<31, math.MaxUint64 - 1<<32, math.MaxUint64 - 1, math.MaxUint64,
}

func width(wide bool) uint {
	if wide {
		return 64
	}
	return 32
}

// truncated is v's lowest n bits, of a number of any size and either sign.
func truncated(v *big.Int, n uint) *big.Int {
	return new(big.Int).Mod(v, new(big.Int).Lsh(big.NewInt(1), n))
}

func unsigned(a uint64, n uint) *big.Int {
	return truncated(new(big.Int).SetUint64(a), n)
}

func signed(a uint64, n uint) *big.Int {
	v := unsigned(a, n)
	if v.Bit(int(n)-1) == 1 {
		v.Sub(v, new(big.Int).Lsh(big.NewInt(1), n))
	}
	return v
}

// aluOf is what P1.1 says, in numbers without a width.
func aluOf(op int, wide bool, a, b uint64) uint64 {
	n := width(wide)
	x, y, v := unsigned(a, n), unsigned(b, n), new(big.Int)
	shift := new(big.Int).Lsh(big.NewInt(1), uint(y.Uint64()%uint64(n)))
	switch op {
	case word.Add:
		v.Add(x, y)
	case word.Sub:
		v.Sub(x, y)
	case word.Mul:
		v.Mul(x, y)
	case word.Div:
		if y.Sign() != 0 {
			v.Div(x, y)
		}
	case word.Or:
		v.Or(x, y)
	case word.And:
		v.And(x, y)
	case word.Lsh:
		v.Mul(x, shift)
	case word.Rsh:
		v.Div(x, shift)
	case word.Neg:
		v.Neg(x)
	case word.Mod:
		v.Set(x)
		if y.Sign() != 0 {
			v.Mod(x, y)
		}
	case word.Xor:
		v.Xor(x, y)
	case word.Mov:
		v.Set(y)
	case word.Arsh:
		v.Div(signed(a, n), shift) // Div rounds down for a divisor above 0, as copies of the highest bit do
	}
	return truncated(v, n).Uint64()
}

// jumpOf is what P1.3 says, in numbers without a width.
func jumpOf(op int, wide bool, a, b uint64) bool {
	n := width(wide)
	u := unsigned(a, n).Cmp(unsigned(b, n))
	s := signed(a, n).Cmp(signed(b, n))
	switch op {
	case word.Jeq:
		return u == 0
	case word.Jgt:
		return u > 0
	case word.Jge:
		return u >= 0
	case word.Jset:
		return new(big.Int).And(unsigned(a, n), unsigned(b, n)).Sign() != 0
	case word.Jne:
		return u != 0
	case word.Jsgt:
		return s > 0
	case word.Jsge:
		return s >= 0
	case word.Jlt:
		return u < 0
	case word.Jle:
		return u <= 0
	case word.Jslt:
		return s < 0
	}
	return s <= 0
}

// others are numbers that are none of the list: those round it, and those of which a part is one of it.
func others(list []int) []int {
	is := map[int]bool{}
	for _, op := range list {
		is[op] = true
	}
	all := []int{math.MinInt, math.MinInt + 0x10, math.MaxInt}
	for op := -0x210; op <= 0x210; op++ {
		all = append(all, op)
	}
	for _, op := range list {
		all = append(all, op+1<<8, op+1<<32, op-1<<32, op+math.MinInt, op>>4)
	}
	var out []int
	for _, op := range all {
		if !is[op] {
			out = append(out, op)
		}
	}
	return out
}

// The opcodes' numbers are those of the chapter, whatever the constants say.
func TestNumbersOfOperations(t *testing.T) {
	for i, op := range []int{0x00, 0x10, 0x20, 0x30, 0x40, 0x50, 0x60, 0x70, 0x80, 0x90, 0xA0, 0xB0, 0xC0} {
		if operations[i] != op {
			t.Errorf("operation %d is %#x, not %#x", i, operations[i], op)
		}
	}
	for i, op := range []int{0x10, 0x20, 0x30, 0x40, 0x50, 0x60, 0x70, 0xA0, 0xB0, 0xC0, 0xD0} {
		if comparisons[i] != op {
			t.Errorf("comparison %d is %#x, not %#x", i, comparisons[i], op)
		}
	}
}

// P1.1, the chapter's examples and each operation's edges.
func TestAlu(t *testing.T) {
	const max32, max64 = 1<<32 - 1, math.MaxUint64
	for _, x := range []struct {
		name string
		op   int
		wide bool
		a, b uint64
		want uint64
	}{
		{"add wraps at 32", word.Add, false, max32, 2, 1},
		{"add carries above 32", word.Add, true, max32, 2, 1<<32 + 1},
		{"add wraps at 64", word.Add, true, max64, 2, 1},
		{"sub wraps at 64", word.Sub, true, 0, 1, max64},
		{"sub wraps at 32", word.Sub, false, 0, 1, max32},
		{"mul wraps at 32", word.Mul, false, 1<<31 + 1, 2, 2},
		{"mul wraps at 64", word.Mul, true, 1<<63 + 1, 2, 2},
		{"div", word.Div, true, 7, 2, 3},
		{"div is unsigned, wide", word.Div, true, max64, 2, 1<<63 - 1},
		{"div is unsigned, narrow", word.Div, false, max32, 2, 1<<31 - 1},
		{"div by 0, wide", word.Div, true, 7, 0, 0},
		{"div by 0, narrow", word.Div, false, 7, 0, 0},
		{"div by what is 0 in 32 bits", word.Div, false, 7, 1 << 32, 0},
		{"div by 2^32, wide", word.Div, true, 7 << 32, 1 << 32, 7},
		{"or", word.Or, true, 1<<63 + 5, 3, 1<<63 + 7},
		{"or, narrow", word.Or, false, 1<<63 + 5, 1<<32 + 3, 7},
		{"and", word.And, true, 1<<63 + 6, 1<<63 + 3, 1<<63 + 2},
		{"and, narrow", word.And, false, 1<<63 + 6, 1<<63 + 3, 2},
		{"lsh by 65, wide", word.Lsh, true, 1, 65, 2},
		{"lsh by 64, wide", word.Lsh, true, 3, 64, 3},
		{"lsh by 63, wide", word.Lsh, true, 3, 63, 1 << 63},
		{"lsh by 33, narrow", word.Lsh, false, 1, 33, 2},
		{"lsh by 32, narrow", word.Lsh, false, 3, 32, 3},
		{"lsh by 31, narrow", word.Lsh, false, 3, 31, 1 << 31},
		{"lsh by 2^32 + 1, narrow", word.Lsh, false, 1, 1<<32 + 1, 2},
		{"rsh brings zeros, wide", word.Rsh, true, 1 << 63, 63, 1},
		{"rsh by 64, wide", word.Rsh, true, 6, 64, 6},
		{"rsh by 2^64 - 1, wide", word.Rsh, true, max64, max64, 1},
		{"rsh brings zeros, narrow", word.Rsh, false, 1 << 31, 31, 1},
		{"rsh brings none from above", word.Rsh, false, 1<<32 + 4, 1, 2},
		{"rsh by 33, narrow", word.Rsh, false, 6, 33, 3},
		{"neg, wide", word.Neg, true, 1, 99, max64},
		{"neg, narrow", word.Neg, false, 1, 99, max32},
		{"neg of 0", word.Neg, true, 0, 99, 0},
		{"neg of what is 0 in 32 bits", word.Neg, false, 1 << 32, 0, 0},
		{"neg of the lowest, narrow", word.Neg, false, 1 << 31, 0, 1 << 31},
		{"mod", word.Mod, true, 7, 4, 3},
		{"mod is unsigned", word.Mod, true, max64, 10, 5},
		{"mod by 0, wide", word.Mod, true, 7, 0, 7},
		{"mod by 0, wide, above 32 bits", word.Mod, true, 1<<32 + 7, 0, 1<<32 + 7},
		{"mod by 0, narrow", word.Mod, false, 1<<32 + 7, 0, 7},
		{"mod by what is 0 in 32 bits", word.Mod, false, 9, 1 << 32, 9},
		{"xor", word.Xor, true, 1<<63 + 6, 3, 1<<63 + 5},
		{"xor, narrow", word.Xor, false, 1<<63 + 6, 3, 5},
		{"mov, wide", word.Mov, true, 1, max64, max64},
		{"mov, narrow", word.Mov, false, 1, 1<<32 + 3, 3},
		{"arsh by 33, narrow", word.Arsh, false, 1 << 31, 33, 1<<31 + 1<<30},
		{"arsh by 32, narrow", word.Arsh, false, 1 << 31, 32, 1 << 31},
		{"arsh by 31, narrow", word.Arsh, false, 1 << 31, 31, max32},
		{"arsh, narrow, highest bit not set", word.Arsh, false, 1<<63 + 1<<30, 30, 1},
		{"arsh by 63, wide", word.Arsh, true, 1 << 63, 63, max64},
		{"arsh by 64, wide", word.Arsh, true, 1 << 63, 64, 1 << 63},
		{"arsh by 65, wide", word.Arsh, true, 1 << 63, 65, 3 << 62},
		{"arsh, wide, highest bit not set", word.Arsh, true, 1 << 31, 31, 1},
	} {
		if v, ok := word.Alu(x.op, x.wide, x.a, x.b); v != x.want || !ok {
			t.Errorf("%s: %#x, %v, not %#x, true", x.name, v, ok, x.want)
		}
	}
}

// P1.1, every operation at both widths on every two of the numbers.
func TestAluOfAll(t *testing.T) {
	for _, op := range operations {
		for _, wide := range []bool{false, true} {
			for _, a := range numbers {
				for _, b := range numbers {
					want := aluOf(op, wide, a, b)
					if v, ok := word.Alu(op, wide, a, b); v != want || !ok {
						t.Fatalf("operation %#x, wide %v, of %#x and %#x: %#x, %v, not %#x, true", op, wide, a, b, v, ok, want)
					}
				}
			}
		}
	}
}

// P1.1, every count up to beyond twice the width.
func TestAluShifts(t *testing.T) {
	for _, op := range []int{word.Lsh, word.Rsh, word.Arsh} {
		for _, wide := range []bool{false, true} {
			for _, a := range numbers {
				for b := range uint64(200) {
					if v, ok := word.Alu(op, wide, a, b); v != aluOf(op, wide, a, b) || !ok {
						t.Fatalf("operation %#x, wide %v, of %#x and %d: %#x, %v", op, wide, a, b, v, ok)
					}
				}
			}
		}
	}
}

// P1.1, what is no operation.
func TestAluOfNone(t *testing.T) {
	for _, op := range others(operations) {
		for _, wide := range []bool{false, true} {
			if v, ok := word.Alu(op, wide, 7, 3); v != 0 || ok {
				t.Errorf("%#x is no operation, wide %v: %#x, %v", op, wide, v, ok)
			}
		}
	}
}

// P1.3, the chapter's examples and each comparison's edges.
func TestJump(t *testing.T) {
	const below, lowest = math.MaxUint64, 1 << 63 // -1 and the least, signed
	for _, x := range []struct {
		name string
		op   int
		wide bool
		a, b uint64
		want bool
	}{
		{"1 > -2^31, narrow", word.Jsgt, false, 1, 1 << 31, true},
		{"1 > 2^31, wide", word.Jsgt, true, 1, 1 << 31, false},
		{"jeq of the low halves", word.Jeq, false, 1 << 32, 0, true},
		{"jeq of the whole", word.Jeq, true, 1 << 32, 0, false},
		{"jne of the low halves", word.Jne, false, 1<<32 + 5, 5, false},
		{"jne of the whole", word.Jne, true, 1<<32 + 5, 5, true},
		{"jgt is unsigned", word.Jgt, true, below, 1, true},
		{"jgt of equal ones", word.Jgt, true, 4, 4, false},
		{"jgt, narrow, ignores what is above", word.Jgt, false, 1 << 32, 1, false},
		{"jge of equal ones", word.Jge, true, 4, 4, true},
		{"jge is unsigned", word.Jge, true, 1, below, false},
		{"jlt is unsigned", word.Jlt, false, 1, 1<<32 - 1, true},
		{"jlt of equal ones", word.Jlt, true, 4, 4, false},
		{"jle of equal ones", word.Jle, true, 3, 3, true},
		{"jle is unsigned", word.Jle, true, below, 1, false},
		{"jsgt of equal ones", word.Jsgt, true, below, below, false},
		{"jsgt, both below 0", word.Jsgt, true, below, lowest, true},
		{"jsge of equal ones", word.Jsge, true, below, below, true},
		{"jsge, -1 and 0", word.Jsge, true, below, 0, false},
		{"jsge, narrow, -1 and 0", word.Jsge, false, 1<<32 - 1, 0, false},
		{"jsge, wide, 2^32 - 1 and 0", word.Jsge, true, 1<<32 - 1, 0, true},
		{"jslt of the least", word.Jslt, true, lowest, 0, true},
		{"jslt of the least, narrow", word.Jslt, false, lowest, 0, false},
		{"jslt of equal ones", word.Jslt, true, below, below, false},
		{"jsle of equal ones", word.Jsle, true, below, below, true},
		{"jsle, 0 and -1", word.Jsle, true, 0, below, false},
		{"jset, none in common", word.Jset, true, 6, 9, false},
		{"jset, one in common", word.Jset, true, 6, 10, true},
		{"jset, the highest in common", word.Jset, true, lowest, below, true},
		{"jset, narrow, one above in common", word.Jset, false, 1 << 32, 1 << 32, false},
		{"jset of 0", word.Jset, true, 0, 0, false},
	} {
		if v, ok := word.Jump(x.op, x.wide, x.a, x.b); v != x.want || !ok {
			t.Errorf("%s: %v, %v, not %v, true", x.name, v, ok, x.want)
		}
	}
}

// P1.3, every comparison at both widths of every two of the numbers.
func TestJumpOfAll(t *testing.T) {
	for _, op := range comparisons {
		for _, wide := range []bool{false, true} {
			for _, a := range numbers {
				for _, b := range numbers {
					want := jumpOf(op, wide, a, b)
					if v, ok := word.Jump(op, wide, a, b); v != want || !ok {
						t.Fatalf("comparison %#x, wide %v, of %#x and %#x: %v, %v, not %v, true", op, wide, a, b, v, ok, want)
					}
				}
			}
		}
	}
}

// P1.3, what is no comparison: Ja, which compares nothing, among it.
func TestJumpOfNone(t *testing.T) {
	for _, op := range append(others(comparisons), word.Ja) {
		for _, wide := range []bool{false, true} {
			for _, b := range []uint64{3, 7, 8} {
				if v, ok := word.Jump(op, wide, 7, b); v || ok {
					t.Errorf("%#x is no comparison, wide %v: %v, %v", op, wide, v, ok)
				}
			}
		}
	}
}
