package span_test

import (
	"math"
	"testing"

	"crossbar/api"
	"crossbar/span"
)

const (
	most  uint64 = math.MaxUint64
	top   uint64 = 1 << 63
	low32 uint64 = math.MaxUint32
)

// sp is a span.
func sp(lo, hi uint64) api.Span { return api.Span{Lo: lo, Hi: hi} }

// of is a number alone, whatever span.Of says.
func of(v uint64) api.Span { return sp(v, v) }

// all is all numbers, whatever span.All says.
var all = sp(0, most)

// tn is a tnum.
func tn(value, mask uint64) api.Tnum { return api.Tnum{Value: value, Mask: mask} }

// P4.1: Of and All.
func TestOfAndAll(t *testing.T) {
	for _, v := range numbers {
		if got := span.Of(v); got != of(v) {
			t.Errorf("Of(%#x): %#x", v, got)
		}
	}
	if got := span.All(); got != all {
		t.Errorf("All: %#x", got)
	}
}

// P4.1: In, at and round both ends.
func TestIn(t *testing.T) {
	for _, x := range []struct {
		a    api.Span
		v    uint64
		want bool
	}{
		{sp(4, 6), 3, false}, {sp(4, 6), 4, true}, {sp(4, 6), 5, true}, {sp(4, 6), 6, true}, {sp(4, 6), 7, false}, {sp(4, 6), 1<<32 + 5, false},
		{of(0), 0, true}, {of(0), 1, false}, {of(0), most, false},
		{of(most), most, true}, {of(most), most - 1, false}, {of(most), 0, false},
		{all, 0, true}, {all, top, true}, {all, most, true},
		{sp(1, most-1), 0, false}, {sp(1, most-1), most, false}, {sp(1, most-1), 1, true}, {sp(1, most-1), most - 1, true},
		{sp(top-1, top), top - 2, false}, {sp(top-1, top), top - 1, true}, {sp(top-1, top), top, true}, {sp(top-1, top), top + 1, false},
		{sp(0, top-1), most, false}, {sp(top, most), 1, false},
	} {
		if got := span.In(x.a, x.v); got != x.want {
			t.Errorf("In(%#x, %#x): %v", x.a, x.v, got)
		}
	}
}

// P4.1: Within, Join and Meet, of spans apart, side by side, that share an end, one within the other, and alike.
func TestSets(t *testing.T) {
	for _, x := range []struct {
		a, b   api.Span
		within bool
		join   api.Span
		meet   api.Span
		ok     bool
	}{
		{sp(1, 2), sp(5, 9), false, sp(1, 9), sp(0, 0), false},
		{sp(5, 9), sp(1, 2), false, sp(1, 9), sp(0, 0), false},
		{sp(1, 4), sp(5, 9), false, sp(1, 9), sp(0, 0), false},
		{sp(1, 5), sp(5, 9), false, sp(1, 9), of(5), true},
		{sp(5, 9), sp(1, 5), false, sp(1, 9), of(5), true},
		{sp(1, 7), sp(5, 9), false, sp(1, 9), sp(5, 7), true},
		{sp(5, 9), sp(1, 7), false, sp(1, 9), sp(5, 7), true},
		{sp(5, 7), sp(5, 9), true, sp(5, 9), sp(5, 7), true},
		{sp(7, 9), sp(5, 9), true, sp(5, 9), sp(7, 9), true},
		{sp(6, 8), sp(5, 9), true, sp(5, 9), sp(6, 8), true},
		{sp(5, 9), sp(6, 8), false, sp(5, 9), sp(6, 8), true},
		{sp(4, 8), sp(5, 9), false, sp(4, 9), sp(5, 8), true},
		{sp(5, 9), sp(5, 9), true, sp(5, 9), sp(5, 9), true},
		{of(7), of(7), true, of(7), of(7), true},
		{of(7), of(8), false, sp(7, 8), sp(0, 0), false},
		{of(0), of(most), false, all, sp(0, 0), false},
		{of(0), of(0), true, of(0), of(0), true},
		{all, all, true, all, all, true},
		{all, sp(0, most-1), false, all, sp(0, most-1), true},
		{sp(1, most), all, true, all, sp(1, most), true},
		{sp(0, top-1), sp(top, most), false, all, sp(0, 0), false},
		{sp(0, top), sp(top, most), false, all, of(top), true},
	} {
		if got := span.Within(x.a, x.b); got != x.within {
			t.Errorf("Within(%#x, %#x): %v", x.a, x.b, got)
		}
		if got := span.Join(x.a, x.b); got != x.join {
			t.Errorf("Join(%#x, %#x): %#x, not %#x", x.a, x.b, got, x.join)
		}
		if got, ok := span.Meet(x.a, x.b); got != x.meet || ok != x.ok {
			t.Errorf("Meet(%#x, %#x): %#x, %v, not %#x, %v", x.a, x.b, got, ok, x.meet, x.ok)
		}
	}
}

// P4.2: the chapter's examples, and the edges of each operation of two spans.
func TestOperations(t *testing.T) {
	type f = func(a, b api.Span) api.Span
	for _, x := range []struct {
		name string
		f    f
		a, b api.Span
		want api.Span
	}{
		{"Add", span.Add, sp(250, 255), sp(1, 2), sp(251, 257)},
		{"Add, neither fits", span.Add, sp(most-1, most), of(2), sp(0, 1)},
		{"Add, just one fits", span.Add, sp(most-1, most), sp(1, 2), all},
		{"Add, up to the last that fits", span.Add, sp(0, most-2), of(2), sp(2, most)},
		{"Add, the first that doesn't", span.Add, sp(0, most-1), of(2), all},
		{"Add, all that don't", span.Add, sp(2, most), sp(most-1, most), sp(0, most-1)},
		{"Add of All and 0", span.Add, all, of(0), all},
		{"Add of All and 1", span.Add, all, of(1), all},
		{"Add past 2^63", span.Add, of(top - 1), of(1), of(top)},
		{"Sub", span.Sub, sp(5, 9), of(5), sp(0, 4)},
		{"Sub, just one fits", span.Sub, sp(5, 9), of(6), all},
		{"Sub, just one fits, the least does not by much", span.Sub, sp(5, 9), sp(0, 9), all},
		{"Sub, neither fits", span.Sub, sp(5, 9), of(10), sp(most-4, most)},
		{"Sub, neither fits, of a wide b", span.Sub, sp(5, 9), sp(10, 20), sp(most-14, most)},
		{"Sub of All and 0", span.Sub, all, of(0), all},
		{"Sub of 0 and All", span.Sub, of(0), all, all},
		{"Sub of 0 and all but 0", span.Sub, of(0), sp(1, most), sp(1, most)},
		{"Sub of All and All", span.Sub, all, all, all},
		{"Mul", span.Mul, sp(2, 3), sp(4, 5), sp(8, 15)},
		{"Mul, just one fits", span.Mul, sp(2, 1<<32), sp(3, 1<<32), all},
		{"Mul, neither fits", span.Mul, of(top), of(2), all},
		{"Mul, the greatest that fits", span.Mul, sp(0, low32), sp(1, 1<<32+1), sp(0, most)},
		{"Mul by 0", span.Mul, all, of(0), of(0)},
		{"Mul by 1", span.Mul, sp(3, most), of(1), sp(3, most)},
		{"Mul by 0 or 2", span.Mul, all, sp(0, 2), all},
		{"Div by 0 alone", span.Div, sp(7, 9), of(0), of(0)},
		{"Div by 0 and others", span.Div, sp(7, 9), sp(0, 2), sp(0, 9)},
		{"Div by no 0", span.Div, sp(7, 9), sp(2, 3), sp(2, 4)},
		{"Div by greater ones", span.Div, sp(7, 9), sp(10, 20), of(0)},
		{"Div by All", span.Div, sp(7, 9), all, sp(0, 9)},
		{"Div of All by 1", span.Div, all, of(1), all},
		{"Div of the most", span.Div, of(most), sp(1, most), sp(1, most)},
		{"Mod by 0 alone", span.Mod, sp(7, 9), of(0), sp(7, 9)},
		{"Mod by 0 and others", span.Mod, sp(7, 9), sp(0, 2), sp(0, 9)},
		{"Mod by no 0", span.Mod, sp(7, 9), of(4), sp(0, 3)},
		{"Mod by greater ones", span.Mod, sp(7, 9), sp(10, 20), sp(7, 9)},
		{"Mod by what a has", span.Mod, sp(7, 9), sp(9, 20), sp(0, 9)},
		{"Mod by some of a, b's Hi the least", span.Mod, sp(7, 9), sp(1, 9), sp(0, 8)},
		{"Mod by All", span.Mod, sp(7, 9), all, sp(0, 9)},
		{"Mod by 1", span.Mod, all, of(1), of(0)},
		{"Mod of the most", span.Mod, all, sp(1, most), sp(0, most-1)},
		{"Mod of 0 by 0 and others", span.Mod, of(0), all, of(0)},
		{"And", span.And, sp(4, 5), of(2), sp(0, 2)},
		{"And, a's Hi the least", span.And, sp(1, 3), sp(9, most), sp(0, 3)},
		{"And of All", span.And, all, all, all},
		{"Or", span.Or, sp(4, 5), of(2), sp(4, 7)},
		{"Or, b's Lo and a's Hi", span.Or, sp(1, 9), sp(2, 3), sp(2, 15)},
		{"Or of 0", span.Or, of(0), of(0), of(0)},
		{"Or of 2^k - 1", span.Or, sp(0, 7), sp(1, 3), sp(1, 7)},
		{"Or of 2^k", span.Or, sp(0, 8), sp(1, 3), sp(1, 15)},
		{"Or of 2^63 - 1", span.Or, sp(0, top-1), of(0), sp(0, top-1)},
		{"Or of 2^63", span.Or, of(0), of(top), sp(top, most)},
		{"Or of the most", span.Or, of(most), of(0), of(most)},
		{"Xor", span.Xor, sp(4, 5), of(2), sp(0, 7)},
		{"Xor, b's Hi the greatest", span.Xor, of(4), sp(8, 16), sp(0, 31)},
		{"Xor of 0", span.Xor, of(0), of(0), of(0)},
		{"Xor of 1", span.Xor, of(1), of(0), sp(0, 1)},
		{"Xor of 2^k - 1", span.Xor, of(7), of(3), sp(0, 7)},
		{"Xor of 2^63", span.Xor, of(top), of(top), all},
		{"Xor of 2^63 - 1", span.Xor, of(top - 1), of(top - 1), sp(0, top-1)},
	} {
		if got := x.f(x.a, x.b); got != x.want {
			t.Errorf("%s: of %#x and %#x: %#x, not %#x", x.name, x.a, x.b, got, x.want)
		}
	}
}

// P4.2: Lsh and Rsh, by counts on both sides of 64 and below 0.
func TestShifts(t *testing.T) {
	for _, x := range []struct {
		a        api.Span
		n        int
		lsh, rsh api.Span
	}{
		{sp(1, 3), 0, sp(1, 3), sp(1, 3)},
		{sp(1, 3), 64, sp(1, 3), sp(1, 3)},
		{sp(1, 3), -64, sp(1, 3), sp(1, 3)},
		{sp(1, 3), 1, sp(2, 6), sp(0, 1)},
		{sp(1, 3), 65, sp(2, 6), sp(0, 1)},
		{sp(1, 3), -63, sp(2, 6), sp(0, 1)},
		{sp(1, 3), math.MinInt + 1, sp(2, 6), sp(0, 1)},
		{sp(1, 3), 62, sp(1<<62, 3<<62), of(0)},
		{sp(1, 3), 63, all, of(0)},
		{sp(1, 4), 62, all, of(0)},
		{of(1), 63, of(top), of(0)},
		{of(1), -1, of(top), of(0)},
		{of(1), math.MaxInt, of(top), of(0)},
		{of(2), 63, all, of(0)},
		{of(0), 63, of(0), of(0)},
		{sp(8, 17), 67, sp(64, 136), sp(1, 2)},
		{all, 0, all, all},
		{all, 1, all, sp(0, top-1)},
		{all, 63, all, sp(0, 1)},
		{sp(0, top-1), 1, sp(0, most-1), sp(0, 1<<62-1)},
		{sp(0, top), 1, all, sp(0, 1<<62)},
		{of(top), 63, all, of(1)},
		{of(most), 32, all, of(low32)},
		{sp(0, low32), 32, sp(0, most-low32), of(0)},
		{sp(0, 1<<32), 32, all, sp(0, 1)},
	} {
		if got := span.Lsh(x.a, x.n); got != x.lsh {
			t.Errorf("Lsh(%#x, %d): %#x, not %#x", x.a, x.n, got, x.lsh)
		}
		if got := span.Rsh(x.a, x.n); got != x.rsh {
			t.Errorf("Rsh(%#x, %d): %#x, not %#x", x.a, x.n, got, x.rsh)
		}
	}
}

// P4.2: Cut, on both sides of its bounds.
func TestCut(t *testing.T) {
	halves := sp(0, low32)
	for _, x := range []struct{ a, want api.Span }{
		{of(0), of(0)},
		{of(low32), of(low32)},
		{of(1 << 32), of(0)},
		{of(most), of(low32)},
		{sp(3, 5), sp(3, 5)},
		{sp(1<<32+3, 1<<32+5), sp(3, 5)},
		{sp(most-2, most), sp(low32-2, low32)},
		{sp(low32, 1<<32), halves},
		{sp(5, 1<<32+4), halves},
		{sp(5, 1<<32+5), halves},
		{sp(5, 1<<32+6), halves},
		{sp(0, low32), halves},
		{sp(0, 1<<32), halves},
		{sp(1<<40, 1<<40+low32), halves},
		{sp(0, low32-1), sp(0, low32-1)},
		{sp(1, low32), sp(1, low32)},
		{sp(7<<32+1, 7<<32+low32), sp(1, low32)},
		{sp(top-1, top), halves},
		{sp(top, top+1), sp(0, 1)},
		{sp(1, top+2), halves},
		{all, halves},
	} {
		if got := span.Cut(x.a); got != x.want {
			t.Errorf("Cut(%#x): %#x, not %#x", x.a, got, x.want)
		}
	}
}

// P4.4: Bounds and Bits.
func TestBits(t *testing.T) {
	for _, x := range []struct {
		t    api.Tnum
		want api.Span
	}{
		{tn(0, 0), of(0)}, {tn(9, 0), of(9)}, {tn(most, 0), of(most)}, {tn(4, 3), sp(4, 7)}, {tn(1, 6), sp(1, 7)},
		{tn(0, most), all}, {tn(1, top), sp(1, top+1)}, {tn(top, 1), sp(top, top+1)}, {tn(top-1, top), sp(top-1, most)},
	} {
		if got := span.Bounds(x.t); got != x.want {
			t.Errorf("Bounds(%#x): %#x, not %#x", x.t, got, x.want)
		}
	}
	for _, x := range []struct {
		a    api.Span
		want api.Tnum
	}{
		{sp(4, 6), tn(4, 3)}, {sp(4, 7), tn(4, 3)}, {sp(5, 6), tn(4, 3)}, {sp(4, 5), tn(4, 1)}, {sp(7, 8), tn(0, 15)}, {sp(23, 24), tn(16, 15)},
		{of(0), tn(0, 0)}, {of(9), tn(9, 0)}, {of(top), tn(top, 0)}, {of(most), tn(most, 0)},
		{all, tn(0, most)}, {sp(top-1, top), tn(0, most)}, {sp(top, top+1), tn(top, 1)}, {sp(0, top-1), tn(0, top-1)}, {sp(top, most), tn(top, top-1)},
		{sp(low32, 1<<32), tn(0, 1<<33-1)},
	} {
		if got := span.Bits(x.a); got != x.want {
			t.Errorf("Bits(%#x): %#x, not %#x", x.a, got, x.want)
		}
	}
}

// What is not promised anything still ends without a panic: spans whose Lo is the greater end, tnums whose Value and Mask have common bits.
func TestInvalid(t *testing.T) {
	for _, lo := range numbers {
		for _, hi := range numbers {
			a, s := sp(lo, hi), sg(int64(lo), int64(hi))
			for _, n := range []int{0, 1, 63, 64, 65, -1, math.MinInt, math.MaxInt} {
				span.Lsh(a, n)
				span.Rsh(a, n)
				span.Sarsh(s, n)
			}
			span.Bounds(tn(lo, hi))
			span.Sbounds(tn(lo, hi))
			span.Bits(a)
			span.Cut(a)
			span.Scut(s)
			span.ToSigned(a)
			span.ToSpan(s)
			for _, v := range numbers {
				for _, b := range []api.Span{of(v), sp(v, 0), sp(0, v), sp(most, v)} {
					for _, o := range unsignedOnes {
						o.f(a, b)
						o.f(b, a)
					}
					span.Within(a, b)
					span.Join(a, b)
					span.Meet(a, b)
				}
			}
		}
	}
}
