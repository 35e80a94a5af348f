package scalar_test

import (
	"math"
	"testing"

	"crossbar/api"
	"crossbar/scalar"
	"crossbar/word"
)

var operations = []int{word.Add, word.Sub, word.Mul, word.Div, word.Or, word.And, word.Lsh, word.Rsh, word.Neg, word.Mod, word.Xor, word.Mov, word.Arsh}

// noOperations are opcodes' bits that are no operation, numbers below 0 and beyond among them.
var noOperations = []int{0xD0, 0xE0, 0xF0, 1, 0x0F, 0x11, 0xBF, 0x100, 0x110, -1, -0x10, -0xF0, math.MaxInt, math.MinInt, 1 << 32, 1<<32 + word.Sub}

type aluCase struct {
	name string
	op   int
	a, b api.Scalar
	want api.Scalar
}

func holdAlu(t *testing.T, wide bool, list []aluCase) {
	t.Helper()
	for _, x := range list {
		if got := scalar.Alu(x.op, wide, x.a, x.b); got != x.want {
			t.Errorf("%s: Alu(%#x, %v, %x, %x): %x, not %x", x.name, x.op, wide, x.a, x.b, got, x.want)
		}
	}
}

// P5.4, sums, differences and products of 64 bits, the chapter's examples among them.
func TestAluWideSums(t *testing.T) {
	holdAlu(t, true, []aluCase{
		{"add 1", word.Add, from(4, 7), one(1), sc(tn(0, 15), sp(5, 8), sg(5, 8))},
		{"add, both ends wrap", word.Add, from(most-1, most), one(2), sc(tn(0, 1), sp(0, 1), sg(0, 1))},
		{"add, an end wraps", word.Add, from(most-1, most), from(1, 2), sc(anyBits, anySpan, sg(-1, 1))},
		{"add, signed wraps", word.Add, from(top-2, top-1), one(1), sc(anyBits, sp(top-1, top), anySign)},
		{"add, bits alone", word.Add, bits(0, most-7), one(5), sc(tn(5, most-7), sp(5, most-2), sg(math.MinInt64+5, math.MaxInt64-2))},
		{"sub 5", word.Sub, from(5, 9), one(5), sc(tn(0, 7), sp(0, 4), sg(0, 4))},
		{"sub, an end wraps", word.Sub, from(4, 9), one(5), sc(anyBits, anySpan, sg(-1, 4))},
		{"sub, both ends wrap", word.Sub, from(4, 5), one(6), sc(tn(most-1, 1), sp(most-1, most), sg(-2, -1))},
		{"sub, signed wraps", word.Sub, from(top, top+1), one(1), sc(anyBits, sp(top-1, top), anySign)},
		{"neg", word.Neg, from(1, 5), all, sc(tn(most-7, 7), sp(most-4, most), sg(-5, -1))},
		{"neg, of 0 too", word.Neg, from(0, 5), one(7), sc(anyBits, anySpan, sg(-5, 0))},
		{"neg of the least", word.Neg, signed(math.MinInt64, math.MinInt64+1), one(0), sc(anyBits, sp(top-1, top), anySign)},
		{"neg of all", word.Neg, all, one(1), all},
		{"mul", word.Mul, from(2, 3), from(4, 5), sc(tn(8, 7), sp(8, 15), sg(8, 15))},
		{"mul that does not fit", word.Mul, from(1<<32, 1<<32+1), from(1<<31, 1<<32), all},
		{"mul that does not fit, signed", word.Mul, from(1<<32-1, 1<<32), from(1<<31-1, 1<<31), sc(anyBits, sp((1<<32-1)*(1<<31-1), top), anySign)},
		{"mul, bits alone", word.Mul, bits(0, most-7), one(4), sc(tn(0, most-31), sp(0, most-31), sg(math.MinInt64, math.MaxInt64-31))},
		{"mul by 0", word.Mul, all, one(0), one(0)},
	})
}

// P5.4, bits, quotients and rests of 64 bits.
func TestAluWideOthers(t *testing.T) {
	holdAlu(t, true, []aluCase{
		{"and 4", word.And, from(4, 7), one(4), one(4)},
		{"and 15", word.And, all, one(15), sc(tn(0, 15), sp(0, 15), sg(0, 15))},
		{"and of spans", word.And, sc(anyBits, sp(0, 9), anySign), from(0, 4), sc(tn(0, 7), sp(0, 4), sg(0, 4))},
		{"or 2", word.Or, from(4, 5), one(2), sc(tn(6, 1), sp(6, 7), sg(6, 7))},
		{"or, below 0", word.Or, all, one(top), sc(tn(top, top-1), sp(top, most), sg(math.MinInt64, -1))},
		{"or of spans", word.Or, from(9, 10), from(0, 2), sc(tn(8, 3), sp(9, 11), sg(9, 11))},
		{"xor 2", word.Xor, from(4, 5), one(2), sc(tn(6, 1), sp(6, 7), sg(6, 7))},
		{"xor of spans", word.Xor, from(9, 10), from(0, 2), sc(tn(8, 3), sp(8, 11), sg(8, 11))},
		{"xor with all", word.Xor, all, one(5), all},
		{"div by 4", word.Div, from(8, 20), one(4), sc(tn(0, 7), sp(2, 5), sg(2, 5))},
		{"div by 0", word.Div, from(8, 20), one(0), one(0)},
		{"div by 0 too", word.Div, from(7, 9), from(0, 2), sc(tn(0, 15), sp(0, 9), sg(0, 9))},
		{"div of all", word.Div, all, from(2, 3), sc(tn(0, top-1), sp(0, top-1), sg(0, math.MaxInt64))},
		{"div, bits are not looked at", word.Div, bits(0, 4), from(1, 2), sc(tn(0, 7), sp(0, 4), sg(0, 4))},
		{"mod 10", word.Mod, all, one(10), sc(tn(0, 15), sp(0, 9), sg(0, 9))},
		{"mod 4", word.Mod, from(7, 9), one(4), sc(tn(0, 3), sp(0, 3), sg(0, 3))},
		{"mod 0", word.Mod, from(7, 9), one(0), sc(tn(0, 15), sp(7, 9), sg(7, 9))},
		{"mod 0 too", word.Mod, from(7, 9), from(0, 2), sc(tn(0, 15), sp(0, 9), sg(0, 9))},
		{"mod what is greater", word.Mod, from(3, 4), from(5, 9), sc(tn(0, 7), sp(3, 4), sg(3, 4))},
		{"mod 0 of odd ones, whose bits are not looked at", word.Mod, bits(1, most-1), one(0), sc(anyBits, sp(1, most), anySign)},
		{"mod of a single number", word.Mod, one(9), from(4, 8), sc(tn(0, 7), sp(0, 7), sg(0, 7))},
		{"mov", word.Mov, one(3), from(4, 7), from(4, 7)},
		{"mov of all", word.Mov, one(3), all, all},
		{"mov, settled", word.Mov, one(3), sc(anyBits, sp(4, 7), anySign), sc(tn(4, 3), sp(4, 7), sg(4, 7))},
	})
}

// P5.4, shifts of 64 bits: by single numbers, modulo 64, and by others.
func TestAluWideShifts(t *testing.T) {
	some := from(4, 7)
	holdAlu(t, true, []aluCase{
		{"lsh by 3", word.Lsh, from(0, 7), one(3), sc(tn(0, 56), sp(0, 56), sg(0, 56))},
		{"lsh by 32", word.Lsh, some, one(32), sc(tn(4<<32, 3<<32), sp(4<<32, 7<<32), sg(4<<32, 7<<32))},
		{"lsh by 33", word.Lsh, some, one(33), sc(tn(4<<33, 3<<33), sp(4<<33, 7<<33), sg(4<<33, 7<<33))},
		{"lsh by 63", word.Lsh, some, one(63), sc(tn(0, top), sp(0, top), sg(math.MinInt64, 0))},
		{"lsh by 64", word.Lsh, some, one(64), some},
		{"lsh by 65", word.Lsh, some, one(65), sc(tn(8, 6), sp(8, 14), sg(8, 14))},
		{"lsh by 2^40 + 1", word.Lsh, some, one(1<<40 + 1), sc(tn(8, 6), sp(8, 14), sg(8, 14))},
		{"lsh by -1", word.Lsh, some, one(most), sc(tn(0, top), sp(0, top), sg(math.MinInt64, 0))},
		{"lsh by 1 or 2", word.Lsh, some, from(1, 2), all},
		{"lsh of a single number by others", word.Lsh, one(1), from(0, 1), all},
		{"lsh to below 0", word.Lsh, from(top>>1, top>>1+1), one(1), sc(tn(top, 2), sp(top, top+2), sg(math.MinInt64, math.MinInt64+2))},
		{"rsh by 60", word.Rsh, all, one(60), sc(tn(0, 15), sp(0, 15), sg(0, 15))},
		{"rsh by 1", word.Rsh, some, one(1), sc(tn(2, 1), sp(2, 3), sg(2, 3))},
		{"rsh by 32", word.Rsh, all, one(32), lower},
		{"rsh by 33", word.Rsh, all, one(33), sc(tn(0, 1<<31-1), sp(0, 1<<31-1), sg(0, 1<<31-1))},
		{"rsh by 63", word.Rsh, all, one(63), sc(tn(0, 1), sp(0, 1), sg(0, 1))},
		{"rsh by 64", word.Rsh, all, one(64), all},
		{"rsh by 65", word.Rsh, some, one(65), sc(tn(2, 1), sp(2, 3), sg(2, 3))},
		{"rsh by others", word.Rsh, from(9, 100), from(1, 2), sc(tn(0, 127), sp(0, 100), sg(0, 100))},
		{"rsh of a single number by others", word.Rsh, one(9), from(1, 2), sc(tn(0, 15), sp(0, 9), sg(0, 9))},
		{"arsh by 1", word.Arsh, some, one(1), sc(tn(2, 1), sp(2, 3), sg(2, 3))},
		{"arsh round 0", word.Arsh, signed(-8, 7), one(1), sc(anyBits, anySpan, sg(-4, 3))},
		{"arsh below 0", word.Arsh, signed(-8, -5), one(65), sc(tn(most-3, 1), sp(most-3, most-2), sg(-4, -3))},
		{"arsh by 32", word.Arsh, all, one(32), sc(anyBits, anySpan, sg(math.MinInt32, math.MaxInt32))},
		{"arsh by 63", word.Arsh, all, one(63), sc(anyBits, anySpan, sg(-1, 0))},
		{"arsh by 64", word.Arsh, signed(-8, 7), one(64), signed(-8, 7)},
		{"arsh, U is not looked at", word.Arsh, sc(anyBits, sp(4, 7), anySign), one(1), sc(anyBits, anySpan, sg(-1<<62, 1<<62-1))},
		{"arsh by others", word.Arsh, some, from(0, 1), all},
	})
}

// P5.4, of 32 bits: Low first and last.
func TestAluNarrow(t *testing.T) {
	holdAlu(t, false, []aluCase{
		{"add, wraps", word.Add, from(1<<32-2, 1<<32-1), one(2), sc(tn(0, 1), sp(0, 1), sg(0, 1))},
		{"add, an end wraps", word.Add, from(1<<32-2, 1<<32-1), from(1, 2), lower},
		{"add, upper halves", word.Add, from(1<<40+4, 1<<40+7), one(1<<32 + 1), sc(tn(0, 15), sp(5, 8), sg(5, 8))},
		{"add, what signed alone knows is lost", word.Add, sc(anyBits, anySpan, sg(4, 7)), one(1), lower},
		{"sub", word.Sub, from(5, 9), one(5), sc(tn(0, 7), sp(0, 4), sg(0, 4))},
		{"sub, to below 0", word.Sub, from(4, 5), one(6), sc(tn(1<<32-2, 1), sp(1<<32-2, 1<<32-1), sg(1<<32-2, 1<<32-1))},
		{"sub, round 0", word.Sub, from(4, 9), one(5), lower},
		{"neg", word.Neg, from(1, 5), all, sc(tn(1<<32-8, 7), sp(1<<32-5, 1<<32-1), sg(1<<32-5, 1<<32-1))},
		{"mul", word.Mul, from(1<<31, 1<<31+1), one(2), sc(tn(0, 2), sp(0, 2), sg(0, 2))},
		{"and", word.And, all, one(most), lower},
		{"or", word.Or, from(0, 1), one(1<<32 + 8), sc(tn(8, 1), sp(8, 9), sg(8, 9))},
		{"xor", word.Xor, from(1<<32, 1<<32+1), one(most), sc(tn(1<<32-2, 1), sp(1<<32-2, 1<<32-1), sg(1<<32-2, 1<<32-1))},
		{"div", word.Div, from(1<<32+8, 1<<32+20), one(4), sc(tn(0, 7), sp(2, 5), sg(2, 5))},
		{"div by 2^32, that is 0", word.Div, from(8, 20), one(1 << 32), one(0)},
		{"mod 2^32, that is 0", word.Mod, from(1<<32+7, 1<<32+9), one(1 << 32), sc(tn(0, 15), sp(7, 9), sg(7, 9))},
		{"mod 10", word.Mod, all, one(10), sc(tn(0, 15), sp(0, 9), sg(0, 9))},
		{"mov", word.Mov, one(3), all, lower},
		{"mov of a few", word.Mov, one(3), from(1<<32+4, 1<<32+7), sc(tn(4, 3), sp(4, 7), sg(4, 7))},
	})
}

// P5.4, shifts of 32 bits: modulo 32, Arsh like Rsh of what is less than 2^31 alone.
func TestAluNarrowShifts(t *testing.T) {
	some := from(4, 7)
	holdAlu(t, false, []aluCase{
		{"lsh by 1", word.Lsh, from(1<<31, 1<<31+1), one(1), sc(tn(0, 2), sp(0, 2), sg(0, 2))},
		{"lsh by 31", word.Lsh, some, one(31), sc(tn(0, 1<<31), sp(0, 1<<31), sg(0, 1<<31))},
		{"lsh by 32", word.Lsh, some, one(32), some},
		{"lsh by 33", word.Lsh, some, one(33), sc(tn(8, 6), sp(8, 14), sg(8, 14))},
		{"lsh by 63", word.Lsh, some, one(63), sc(tn(0, 1<<31), sp(0, 1<<31), sg(0, 1<<31))},
		{"lsh by 64", word.Lsh, some, one(64), some},
		{"lsh by others", word.Lsh, some, from(1, 2), lower},
		{"lsh by what is 33 in its lower half", word.Lsh, some, sc(tn(33, 1<<40), anySpan, anySign), sc(tn(8, 6), sp(8, 14), sg(8, 14))},
		{"rsh by 31", word.Rsh, all, one(31), sc(tn(0, 1), sp(0, 1), sg(0, 1))},
		{"rsh by 32", word.Rsh, all, one(32), lower},
		{"rsh by 33", word.Rsh, some, one(33), sc(tn(2, 1), sp(2, 3), sg(2, 3))},
		{"rsh by others", word.Rsh, from(1<<40+9, 1<<40+100), from(1, 2), sc(tn(0, 127), sp(0, 100), sg(0, 100))},
		{"arsh by 2", word.Arsh, from(0, 100), one(2), sc(tn(0, 31), sp(0, 25), sg(0, 25))},
		{"arsh by 34", word.Arsh, from(0, 100), one(34), sc(tn(0, 31), sp(0, 25), sg(0, 25))},
		{"arsh by 32", word.Arsh, some, one(32), some},
		{"arsh by others", word.Arsh, from(9, 100), from(1, 2), sc(tn(0, 127), sp(0, 100), sg(0, 100))},
		{"arsh of Hi 2^31 - 1", word.Arsh, from(0, 1<<31-1), one(30), sc(tn(0, 1), sp(0, 1), sg(0, 1))},
		{"arsh of Hi 2^31", word.Arsh, from(0, 1<<31), one(30), lower},
		{"arsh of Hi 2^31 by others", word.Arsh, from(0, 1<<31), from(1, 2), lower},
		{"arsh of Hi 2^40 + 7, that is 7", word.Arsh, from(1<<40+4, 1<<40+7), one(1), sc(tn(2, 1), sp(2, 3), sg(2, 3))},
		{"arsh below 0", word.Arsh, signed(-8, -5), one(1), lower},
	})
}

// P5.4: single numbers, of 64 bits and 32, give one number, Div and Mod by 0 too; Mov needs b alone, Neg needs a alone.
func TestAluOfSingle(t *testing.T) {
	others := []api.Scalar{all, from(1, 9), signed(-4, 4), sc(tn(4, 0), sp(5, 9), anySign), sc(anyBits, sp(5, 5), anySign)}
	for _, op := range operations {
		for _, wide := range []bool{false, true} {
			for _, v := range edges {
				for _, w := range edges {
					r, _ := word.Alu(op, wide, v, w)
					if got := scalar.Alu(op, wide, one(v), one(w)); got != one(r) {
						t.Fatalf("Alu(%#x, %v) of %#x and %#x: %x, not %#x", op, wide, v, w, got, r)
					}
				}
				for _, o := range others {
					a, b, needed := one(v), o, op == word.Neg
					if op == word.Mov {
						a, b, needed = o, one(v), true
					}
					r, _ := word.Alu(op, wide, v, v)
					if got := scalar.Alu(op, wide, a, b); needed && got != one(r) {
						t.Fatalf("Alu(%#x, %v) of %x and %x: %x, not %#x", op, wide, a, b, got, r)
					}
				}
			}
		}
	}
}

// P5.4: T says which scalars are single numbers, whatever U and S say; of 32 bits, before Low and after it.
func TestAluOfSingleByBits(t *testing.T) {
	seven := sc(tn(7, 0), sp(4, 6), sg(-1, 99))
	span := sc(anyBits, sp(7, 7), anySign)
	holdAlu(t, true, []aluCase{
		{"add", word.Add, seven, one(1), one(8)},
		{"mod", word.Mod, seven, one(4), one(3)},
		{"mov", word.Mov, all, seven, one(7)},
		{"neg", word.Neg, seven, all, one(most - 6)},
		{"lsh", word.Lsh, one(1), seven, one(128)},
		{"lsh of others", word.Lsh, from(0, 1), seven, sc(tn(0, 128), sp(0, 128), sg(0, 128))},
		{"a span of one is none", word.Mod, span, one(4), from(0, 3)},
		{"a span of one is none to shift by", word.Lsh, from(0, 1), span, all},
	})
	holdAlu(t, false, []aluCase{
		{"add", word.Add, seven, one(1), one(8)},
		{"mod", word.Mod, seven, one(4), one(3)},
		{"mov", word.Mov, all, seven, one(7)},
		{"arsh", word.Arsh, sc(tn(1<<31, 0), sp(0, 9), anySign), one(31), one(1<<32 - 1)},
		{"a span of one is one when it is settled", word.Mod, span, one(4), one(3)},
		{"an upper half that is not known", word.Mod, sc(tn(7, 1<<40), anySpan, anySign), one(1<<32 + 4), one(3)},
		{"arsh of a lower half", word.Arsh, sc(tn(1<<31, 1<<40), anySpan, anySign), one(31), one(1<<32 - 1)},
		{"lsh of others by what has none", word.Lsh, from(0, 1), seven, lower},
	})
}

// P5.4, of scalars that settle to none, and where the result does.
func TestAluOfNone(t *testing.T) {
	none := sc(tn(4, 3), sp(8, 9), anySign)
	quiet := sc(tn(1, 4), sp(2, 4), sg(2, 4)) // 1 or 5, and from 2 to 4, which settling does not find
	holdAlu(t, true, []aluCase{
		{"none that is settled", word.Mov, one(1), quiet, quiet},
		{"none that is settled, and the result is not", word.Sub, quiet, one(1), all},
		{"mov", word.Mov, one(1), none, all},
		{"add", word.Add, none, one(1), sc(tn(8, 3), sp(9, 10), sg(9, 10))},
		{"sub", word.Sub, none, one(0), all},
		{"neg", word.Neg, none, one(0), one(most - 7)},
		{"or", word.Or, none, one(0), all},
		{"div, U alone", word.Div, none, one(1), from(8, 9)},
		{"lsh", word.Lsh, none, one(1), all},
		{"rsh", word.Rsh, none, one(1), all},
		{"rsh by others", word.Rsh, none, from(0, 1), from(0, 9)},
		{"arsh, without U", word.Arsh, none, one(1), from(2, 3)},
	})
	holdAlu(t, false, []aluCase{
		{"none that is settled", word.Mov, one(1), quiet, quiet},
		{"none that is settled, and the result is not", word.Sub, quiet, one(1), lower},
		{"mov", word.Mov, one(1), none, lower},
		{"add", word.Add, none, one(1), lower},
		{"mod 10", word.Mod, none, one(10), from(0, 9)},
		{"and 15", word.And, none, one(15), from(0, 15)},
	})
}

// P5.4, what is no operation.
func TestAluOfNoOperation(t *testing.T) {
	for _, op := range noOperations {
		for _, a := range []api.Scalar{one(1), from(4, 7), all} {
			if got := scalar.Alu(op, true, a, one(1)); got != all {
				t.Errorf("Alu(%#x, true, %x): %x", op, a, got)
			}
			if got := scalar.Alu(op, false, a, one(1)); got != lower {
				t.Errorf("Alu(%#x, false, %x): %x", op, a, got)
			}
		}
	}
}
