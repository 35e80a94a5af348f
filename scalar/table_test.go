package scalar_test

import (
	"math"
	"math/big"
	"testing"

	"crossbar/api"
	"crossbar/scalar"
	"crossbar/span"
	"crossbar/tnum"
	"crossbar/word"
)

// assorted are single numbers, scalars of which each part is told alone, ones whose parts tell different things, and ones that settle to none.
func assorted() []api.Scalar {
	out := []api.Scalar{all, lower, sc(tn(1, 4), sp(2, 4), sg(2, 4))}
	ends := []uint64{0, 1, 7, 1<<31 - 1, 1 << 31, 1<<32 - 1, 1 << 32, top - 1, top, most - 1, most}
	for i, lo := range ends {
		out = append(out, one(lo))
		for _, hi := range ends[i+1:] {
			out = append(out, from(lo, hi))
		}
	}
	for _, lo := range []int64{math.MinInt64, -1 << 32, -1 << 31, -7, -1} {
		for _, hi := range []int64{-1, 0, 5, 1 << 31, math.MaxInt64 - 1} {
			out = append(out, signed(lo, hi), sc(tn(1, most-1), sp(2, most-3), sg(lo, hi)))
		}
	}
	for _, t := range []api.Tnum{tn(4, 3), tn(1, most-1), tn(0, top), tn(0, 1<<32), tn(5, 1<<40), tn(top, 7), tn(1<<31, 3), tn(33, 1<<63|1<<32), tn(0, most-15)} {
		out = append(out, bits(t.Value, t.Mask), sc(t, anySpan, anySign), sc(t, sp(5, 1<<31), anySign), sc(t, anySpan, sg(-9, 6)))
	}
	for _, v := range []uint64{0, 3, 1 << 31, top, most} {
		out = append(out, sc(anyBits, sp(v, v), anySign), sc(anyBits, anySpan, sg(int64(v), int64(v))), sc(tn(v, 0), anySpan, anySign))
	}
	for _, x := range nothing {
		out = append(out, x.a)
	}
	return out
}

// settle is the chapter's definition, written out.
func settle(a api.Scalar) (api.Scalar, bool) {
	for range 2 {
		var x [5]bool
		a.U, x[0] = span.Meet(a.U, span.Bounds(a.T))
		if x[0] {
			a.S, x[1] = span.Smeet(a.S, span.Sbounds(a.T))
		}
		if x[1] {
			a.U, x[2] = span.Meet(a.U, span.ToSpan(a.S))
		}
		if x[2] {
			a.S, x[3] = span.Smeet(a.S, span.ToSigned(a.U))
		}
		if x[3] {
			a.T, x[4] = tnum.Meet(a.T, span.Bits(a.U))
		}
		if !x[4] {
			return all, false
		}
	}
	return a, true
}

// P5.2, held against the definition.
func TestNormOfAssorted(t *testing.T) {
	for _, a := range assorted() {
		want, is := settle(a)
		if got, ok := scalar.Norm(a); got != want || ok != is {
			t.Errorf("Norm(%x): %x, %v, not %x, %v", a, got, ok, want, is)
		}
	}
}

func norm(a api.Scalar) api.Scalar {
	a, _ = settle(a)
	return a
}

func low(a api.Scalar) api.Scalar { return norm(sc(tnum.Cut(a.T), span.Cut(a.U), anySign)) }

// table is P5.4's, each row by its operation, of numbers that are not both single; n is the count modulo the width, or -1.
var table = map[int]func(a, b api.Scalar, n int) api.Scalar{
	word.Add: func(a, b api.Scalar, n int) api.Scalar {
		return sc(tnum.Add(a.T, b.T), span.Add(a.U, b.U), span.Sadd(a.S, b.S))
	},
	word.Sub: func(a, b api.Scalar, n int) api.Scalar {
		return sc(tnum.Sub(a.T, b.T), span.Sub(a.U, b.U), span.Ssub(a.S, b.S))
	},
	word.Neg: func(a, b api.Scalar, n int) api.Scalar {
		return sc(tnum.Sub(tn(0, 0), a.T), span.Sub(sp(0, 0), a.U), span.Ssub(sg(0, 0), a.S))
	},
	word.Mul: func(a, b api.Scalar, n int) api.Scalar { return sc(tnum.Mul(a.T, b.T), span.Mul(a.U, b.U), anySign) },
	word.And: func(a, b api.Scalar, n int) api.Scalar { return sc(tnum.And(a.T, b.T), span.And(a.U, b.U), anySign) },
	word.Or:  func(a, b api.Scalar, n int) api.Scalar { return sc(tnum.Or(a.T, b.T), span.Or(a.U, b.U), anySign) },
	word.Xor: func(a, b api.Scalar, n int) api.Scalar { return sc(tnum.Xor(a.T, b.T), span.Xor(a.U, b.U), anySign) },
	word.Div: func(a, b api.Scalar, n int) api.Scalar { return sc(anyBits, span.Div(a.U, b.U), anySign) },
	word.Mod: func(a, b api.Scalar, n int) api.Scalar { return sc(anyBits, span.Mod(a.U, b.U), anySign) },
	word.Mov: func(a, b api.Scalar, n int) api.Scalar { return b },
	word.Lsh: func(a, b api.Scalar, n int) api.Scalar {
		if n < 0 {
			return all
		}
		return sc(tnum.Lsh(a.T, n), span.Lsh(a.U, n), anySign)
	},
	word.Rsh: func(a, b api.Scalar, n int) api.Scalar {
		if n < 0 {
			return sc(anyBits, sp(0, a.U.Hi), anySign)
		}
		return sc(tnum.Rsh(a.T, n), span.Rsh(a.U, n), anySign)
	},
	word.Arsh: func(a, b api.Scalar, n int) api.Scalar {
		if n < 0 {
			return all
		}
		return sc(tnum.Arsh(a.T, n), anySpan, span.Sarsh(a.S, n))
	},
}

// count is a shift's, if b is a single number.
func count(b api.Scalar, width uint64) int {
	if b.T.Mask != 0 {
		return -1
	}
	return int(b.T.Value % width)
}

// known tells whether the numbers that an operation uses are single.
func known(op int, a, b api.Scalar) bool {
	return (op == word.Mov || a.T.Mask == 0) && (op == word.Neg || b.T.Mask == 0)
}

// aluOf is what P5.4 says of any operation.
func aluOf(op int, wide bool, a, b api.Scalar) api.Scalar {
	if !wide && !known(op, a, b) {
		a, b = low(a), low(b)
	}
	if known(op, a, b) {
		v, _ := word.Alu(op, wide, a.T.Value, b.T.Value)
		return one(v)
	}
	if wide {
		return norm(table[op](a, b, count(b, 64)))
	}
	if op == word.Arsh && a.U.Hi >= 1<<31 {
		return lower
	}
	if op == word.Arsh {
		op = word.Rsh
	}
	return low(norm(table[op](a, b, count(b, 32))))
}

// P5.4, every operation at both widths on every two.
func TestAluOfAssorted(t *testing.T) {
	list := assorted()
	for _, op := range operations {
		for _, wide := range []bool{false, true} {
			for _, a := range list {
				for _, b := range list {
					if got, want := scalar.Alu(op, wide, a, b), aluOf(op, wide, a, b); got != want {
						t.Fatalf("Alu(%#x, %v, %x, %x): %x, not %x", op, wide, a, b, got, want)
					}
				}
			}
		}
	}
}

// opposite is the comparison that holds where another one does not.
var opposite = map[int]int{
	word.Jeq: word.Jne, word.Jne: word.Jeq,
	word.Jgt: word.Jle, word.Jle: word.Jgt, word.Jge: word.Jlt, word.Jlt: word.Jge,
	word.Jsgt: word.Jsle, word.Jsle: word.Jsgt, word.Jsge: word.Jslt, word.Jslt: word.Jsge,
}

// order is what a comparison of order says: of signed numbers, of b and a, and that they are not equal.
type order struct{ signed, exchanged, strict bool }

var orders = map[int]order{
	word.Jlt: {false, false, true}, word.Jle: {false, false, false}, word.Jgt: {false, true, true}, word.Jge: {false, true, false},
	word.Jslt: {true, false, true}, word.Jsle: {true, false, false}, word.Jsgt: {true, true, true}, word.Jsge: {true, true, false},
}

// ends are those of a span, or of a signed one, in numbers without a width.
type ends struct{ lo, hi *big.Int }

func endsOf(a api.Scalar, signed bool) ends {
	if signed {
		return ends{big.NewInt(a.S.Lo), big.NewInt(a.S.Hi)}
	}
	return ends{new(big.Int).SetUint64(a.U.Lo), new(big.Int).SetUint64(a.U.Hi)}
}

// with is a scalar with these ends, and whether there are any numbers from one to the other.
func with(a api.Scalar, signed bool, e ends) (api.Scalar, bool) {
	if e.lo.Cmp(e.hi) > 0 {
		return a, false
	}
	if signed {
		a.S = sg(e.lo.Int64(), e.hi.Int64())
	} else {
		a.U = sp(e.lo.Uint64(), e.hi.Uint64())
	}
	return a, true
}

// plus is a number and a small one, without a width.
func plus(v *big.Int, n int64) *big.Int { return new(big.Int).Add(v, big.NewInt(n)) }

// trimmed is what Jne leaves of a scalar beside another one, of U or of S.
func trimmed(a, b api.Scalar, signed bool) (api.Scalar, bool) {
	x, y := endsOf(a, signed), endsOf(b, signed)
	if y.lo.Cmp(y.hi) != 0 {
		return a, true
	}
	if x.lo.Cmp(y.lo) == 0 {
		x.lo = plus(x.lo, 1)
	}
	if x.hi.Cmp(y.lo) == 0 {
		x.hi = plus(x.hi, -1)
	}
	return with(a, signed, x)
}

// orderedOf is what a comparison of order leaves of two.
func orderedOf(o order, a, b api.Scalar) (api.Scalar, api.Scalar, bool) {
	if o.exchanged {
		b, a, ok := orderedOf(order{o.signed, false, o.strict}, b, a)
		return a, b, ok
	}
	gap := int64(0)
	if o.strict {
		gap = 1
	}
	x, y := endsOf(a, o.signed), endsOf(b, o.signed)
	hi, lo := plus(y.hi, -gap), plus(x.lo, gap)
	if hi.Cmp(x.hi) < 0 {
		x.hi = hi
	}
	if lo.Cmp(y.lo) > 0 {
		y.lo = lo
	}
	a, first := with(a, o.signed, x)
	b, second := with(b, o.signed, y)
	return a, b, first && second
}

// boundsOf is P5.5's list, of a comparison that is wide.
func boundsOf(op int, a, b api.Scalar, taken bool) (api.Scalar, api.Scalar, bool) {
	if op == word.Jset {
		ok := true
		if taken {
			ok = tnum.And(a.T, b.T) != tn(0, 0)
		} else if b.T.Mask == 0 {
			a.T, ok = tnum.Meet(a.T, tn(0, ^b.T.Value))
		}
		return a, b, ok
	}
	if !taken {
		op = opposite[op]
	}
	var x [4]bool
	switch op {
	case word.Jeq:
		a.T, x[0] = tnum.Meet(a.T, b.T)
		a.U, x[1] = span.Meet(a.U, b.U)
		a.S, x[2] = span.Smeet(a.S, b.S)
		return a, a, x[0] && x[1] && x[2]
	case word.Jne:
		a, x[0] = trimmed(a, b, false)
		b, x[1] = trimmed(b, a, false)
		a, x[2] = trimmed(a, b, true)
		b, x[3] = trimmed(b, a, true)
		return a, b, x == [4]bool{true, true, true, true}
	}
	return orderedOf(orders[op], a, b)
}

// branchOf is what P5.5 says of any comparison.
func branchOf(op int, wide bool, a, b api.Scalar, taken bool) (api.Scalar, api.Scalar, bool) {
	if a.T.Mask == 0 && b.T.Mask == 0 {
		if holds, _ := word.Jump(op, wide, a.T.Value, b.T.Value); holds != taken {
			return all, all, false
		}
		return a, b, true
	}
	limit := uint64(1 << 32)
	if orders[op].signed {
		limit = 1 << 31
	}
	if !wide && (a.U.Hi >= limit || b.U.Hi >= limit) {
		return a, b, true
	}
	a, b, ok := boundsOf(op, a, b, taken)
	if !ok {
		return all, all, false
	}
	a, first := settle(a)
	b, second := settle(b)
	if !first || !second {
		return all, all, false
	}
	return a, b, true
}

// P5.5, every comparison at both widths on every two, taken and not.
func TestBranchOfAssorted(t *testing.T) {
	list := assorted()
	for _, op := range comparisons {
		for i := range 4 {
			wide, taken := i%2 == 0, i/2 == 0
			for _, a := range list {
				for _, b := range list {
					x, y, may := scalar.Branch(op, wide, a, b, taken)
					v, w, is := branchOf(op, wide, a, b, taken)
					if x != v || y != w || may != is {
						t.Fatalf("Branch(%#x, %v, %x, %x, %v): %x, %x, %v, not %x, %x, %v", op, wide, a, b, taken, x, y, may, v, w, is)
					}
				}
			}
		}
	}
}
