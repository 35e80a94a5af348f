package scalar_test

import (
	"math"
	"testing"

	"crossbar/api"
	"crossbar/scalar"
)

const (
	most = math.MaxUint64
	top  = 1 << 63
)

var (
	anyBits = tn(0, most)
	anySpan = sp(0, most)
	anySign = sg(math.MinInt64, math.MaxInt64)
	all     = sc(anyBits, anySpan, anySign)
	lower   = sc(tn(0, 1<<32-1), sp(0, 1<<32-1), sg(0, 1<<32-1)) // all numbers of 32 bits
)

// edges are where numbers of 32 bits and of 64, signed and unsigned, come to an end, and a few beside.
var edges = []uint64{0, 1, 2, 5, 31, 32, 33, 63, 64, 65, 1<<31 - 1, 1 << 31, 1<<31 + 1, 1<<32 - 1, 1 << 32, 1<<32 + 5, top - 1, top, top + 1, most - 1<<31, most - 1, most}

func tn(value, mask uint64) api.Tnum { return api.Tnum{Value: value, Mask: mask} }
func sp(lo, hi uint64) api.Span      { return api.Span{Lo: lo, Hi: hi} }
func sg(lo, hi int64) api.Signed     { return api.Signed{Lo: lo, Hi: hi} }

func sc(t api.Tnum, u api.Span, s api.Signed) api.Scalar { return api.Scalar{T: t, U: u, S: s} }

// one is a single number.
func one(v uint64) api.Scalar { return sc(tn(v, 0), sp(v, v), sg(int64(v), int64(v))) }

// bits, from and signed are settled scalars of which one thing is told.
func bits(value, mask uint64) api.Scalar { return settled(sc(tn(value, mask), anySpan, anySign)) }
func from(lo, hi uint64) api.Scalar      { return settled(sc(anyBits, sp(lo, hi), anySign)) }
func signed(lo, hi int64) api.Scalar     { return settled(sc(anyBits, anySpan, sg(lo, hi))) }

func settled(a api.Scalar) api.Scalar {
	a, _ = scalar.Norm(a)
	return a
}

// has tells whether a scalar contains a number, whatever scalar.In says.
func has(a api.Scalar, v uint64) bool {
	return (v^a.T.Value)&^a.T.Mask == 0 && a.U.Lo <= v && v <= a.U.Hi && a.S.Lo <= int64(v) && int64(v) <= a.S.Hi
}

// P5.1, at each edge.
func TestOf(t *testing.T) {
	for _, v := range edges {
		if got := scalar.Of(v); got != one(v) {
			t.Errorf("Of(%#x): %x", v, got)
		}
	}
	if got := scalar.Of(most); got.S != sg(-1, -1) {
		t.Errorf("Of(2^64 - 1): %x", got)
	}
	if got := scalar.All(); got != all {
		t.Errorf("All(): %x", got)
	}
}

// P5.1, numbers that are in one part, and not in another.
func TestIn(t *testing.T) {
	for _, x := range []struct {
		name string
		a    api.Scalar
		v    uint64
		want bool
	}{
		{"all of it", sc(tn(4, 3), sp(5, 9), sg(-2, 6)), 5, true},
		{"the greatest", sc(tn(4, 3), sp(5, 9), sg(-2, 6)), 6, true},
		{"not of U", sc(tn(4, 3), sp(5, 9), sg(-2, 6)), 4, false},
		{"not of S", sc(tn(4, 3), sp(5, 9), sg(-2, 6)), 7, false},
		{"not of T", sc(tn(4, 3), sp(0, 9), sg(0, 9)), 8, false},
		{"T alone", sc(tn(4, 3), anySpan, anySign), 3, false},
		{"U alone", sc(anyBits, sp(4, 7), anySign), 8, false},
		{"S alone", sc(anyBits, anySpan, sg(4, 7)), 3, false},
		{"below 0", sc(anyBits, anySpan, sg(-2, -1)), most, true},
		{"the least below 0", sc(anyBits, anySpan, sg(math.MinInt64, -1)), top, true},
		{"above 0", sc(anyBits, anySpan, sg(math.MinInt64, -1)), top - 1, false},
		{"great, and signed above 0", sc(anyBits, sp(top, most), sg(0, math.MaxInt64)), top, false},
		{"another number", one(5), 6, false},
		{"the number", one(5), 5, true},
	} {
		if got := scalar.In(x.a, x.v); got != x.want {
			t.Errorf("%s: In(%x, %#x): %v", x.name, x.a, x.v, got)
		}
	}
	for _, v := range edges {
		if !scalar.In(all, v) || !scalar.In(one(v), v) || scalar.In(one(v), v+1) || scalar.In(one(v), v^top) {
			t.Errorf("In of %#x", v)
		}
	}
}

// P5.1: each part is to be within the same part, whatever the others would rule out.
func TestWithin(t *testing.T) {
	wide := sc(tn(0, 15), sp(0, 15), sg(-5, 15))
	for _, x := range []struct {
		name string
		a, b api.Scalar
		want bool
	}{
		{"itself", wide, wide, true},
		{"fewer", sc(tn(8, 3), sp(1, 15), sg(-5, 14)), wide, true},
		{"more bits", sc(tn(0, 31), sp(1, 15), sg(-5, 14)), wide, false},
		{"other bits", sc(tn(16, 0), sp(1, 15), sg(-5, 14)), wide, false},
		{"greater", sc(tn(8, 3), sp(1, 16), sg(-5, 14)), wide, false},
		{"less, signed", sc(tn(8, 3), sp(1, 15), sg(-6, 14)), wide, false},
		{"greater, signed", sc(tn(8, 3), sp(1, 15), sg(-5, 16)), wide, false},
		{"less", sc(tn(8, 3), sp(0, 9), sg(0, 9)), sc(tn(0, 15), sp(1, 15), sg(0, 9)), false},
		{"the same numbers, told by another part", sc(tn(4, 3), anySpan, anySign), sc(anyBits, sp(4, 7), anySign), false},
		{"none, and other parts", sc(tn(4, 0), sp(5, 9), anySign), one(5), false},
		{"one of all", one(top), all, true},
		{"all of one", all, one(top), false},
	} {
		if got := scalar.Within(x.a, x.b); got != x.want {
			t.Errorf("%s: Within(%x, %x): %v", x.name, x.a, x.b, got)
		}
	}
}

// P5.2, what each part tells the others, alone and together.
func TestNorm(t *testing.T) {
	for _, x := range []struct {
		name string
		a    api.Scalar
		want api.Scalar
	}{
		{"the chapter's 4 to 7", sc(anyBits, sp(4, 7), anySign), sc(tn(4, 3), sp(4, 7), sg(4, 7))},
		{"bits alone", sc(tn(4, 3), anySpan, anySign), sc(tn(4, 3), sp(4, 7), sg(4, 7))},
		{"signed alone", sc(anyBits, anySpan, sg(4, 7)), sc(tn(4, 3), sp(4, 7), sg(4, 7))},
		{"signed, below 0", sc(anyBits, anySpan, sg(-8, -5)), sc(tn(most-7, 3), sp(most-7, most-4), sg(-8, -5))},
		{"signed, round 0", sc(anyBits, anySpan, sg(-1, 1)), sc(anyBits, anySpan, sg(-1, 1))},
		{"signed, from 0", sc(anyBits, anySpan, sg(0, math.MaxInt64)), sc(tn(0, top-1), sp(0, top-1), sg(0, math.MaxInt64))},
		{"round 2^63", sc(anyBits, sp(top-1, top), anySign), sc(anyBits, sp(top-1, top), anySign)},
		{"from 2^63", sc(anyBits, sp(top, most), anySign), sc(tn(top, top-1), sp(top, most), sg(math.MinInt64, -1))},
		{"the highest bit alone", sc(tn(0, top), anySpan, anySign), sc(tn(0, top), sp(0, top), sg(math.MinInt64, 0))},
		{"bits from 2^63", sc(tn(top, 7), anySpan, anySign), sc(tn(top, 7), sp(top, top+7), sg(math.MinInt64, math.MinInt64+7))},
		{"different things", sc(tn(4, 3), sp(5, 99), sg(-1, 6)), sc(tn(4, 3), sp(5, 6), sg(5, 6))},
		{"odd ones", sc(tn(1, most-1), sp(0, 6), anySign), sc(tn(1, 6), sp(1, 6), sg(1, 6))},
		{"signed ones that U cannot tell", sc(anyBits, sp(0, top), sg(-1, 5)), sc(anyBits, sp(0, top), sg(-1, 5))},
		{"U tells S, and that U", sc(anyBits, sp(3, most), sg(-1, 5)), sc(anyBits, sp(3, most), sg(-1, 5))},
		{"one number of U", sc(anyBits, sp(9, 9), anySign), one(9)},
		{"one number of S", sc(anyBits, anySpan, sg(-1, -1)), one(most)},
		{"one number of T", sc(tn(top, 0), anySpan, anySign), one(top)},
		{"one number of two, not found", sc(tn(0, 8), sp(1, 99), anySign), sc(tn(0, 8), sp(1, 8), sg(1, 8))},
		{"all", all, all},
		{"twice, where a third time would tell more", sc(tn(1, 10), sp(2, 8), sg(1, 5)), sc(tn(3, 0), sp(2, 3), sg(2, 3))},
	} {
		if got, ok := scalar.Norm(x.a); got != x.want || !ok {
			t.Errorf("%s: Norm(%x): %x, %v, not %x, true", x.name, x.a, got, ok, x.want)
		}
	}
}

// nothing are scalars that settle to none, each by another intersection.
var nothing = []struct {
	name string
	a    api.Scalar
}{
	{"U and T", sc(tn(4, 0), sp(5, 9), sg(0, 9))},
	{"U and T, at the other end", sc(tn(4, 3), sp(0, 3), anySign)},
	{"S and T", sc(tn(4, 3), anySpan, sg(8, 9))},
	{"S below 0 and T", sc(tn(4, 3), anySpan, sg(-9, -1))},
	{"U and S", sc(anyBits, sp(0, 3), sg(4, 7))},
	{"U and S below 0", sc(anyBits, sp(0, 3), sg(-4, -1))},
	{"S round 0 and U", sc(anyBits, sp(5, 6), sg(-1, 0))},
	{"T and U", sc(tn(1, most-1), sp(4, 4), anySign)},
	{"the second time", sc(tn(0, 10), sp(3, 7), anySign)},
	{"the second time, of two numbers", sc(tn(0, 8), sp(1, 7), anySign)},
}

// P5.2, where an intersection is empty.
func TestNormOfNone(t *testing.T) {
	for _, x := range nothing {
		if got, ok := scalar.Norm(x.a); got != all || ok {
			t.Errorf("%s: Norm(%x): %x, %v", x.name, x.a, got, ok)
		}
	}
}

// P5.3, the lower halves: of T and U alone, and settled.
func TestLow(t *testing.T) {
	for _, x := range []struct {
		name string
		a    api.Scalar
		want api.Scalar
	}{
		{"a number", one(1<<32 + 5), one(5)},
		{"a number of 32 bits", one(1<<32 - 1), one(1<<32 - 1)},
		{"2^32", one(1 << 32), one(0)},
		{"-1", one(most), one(1<<32 - 1)},
		{"-2^63", one(top), one(0)},
		{"all", all, lower},
		{"above 2^32", from(1<<32+3, 1<<32+5), sc(tn(0, 7), sp(3, 5), sg(3, 5))},
		{"round 2^32", from(1<<32-1, 1<<32), lower},
		{"below 2^32", from(7, 9), sc(tn(0, 15), sp(7, 9), sg(7, 9))},
		{"below 0", signed(-2, -1), sc(tn(1<<32-2, 1), sp(1<<32-2, 1<<32-1), sg(1<<32-2, 1<<32-1))},
		{"S is not looked at", sc(anyBits, anySpan, sg(4, 7)), lower},
		{"an upper half that is not known", sc(tn(5, 1<<40), anySpan, anySign), one(5)},
		{"what differs above", sc(tn(1<<32+4, 0), sp(4, 4), anySign), one(4)},
		{"what is settled afterwards", sc(anyBits, sp(5, 5), anySign), one(5)},
		{"none", sc(tn(4, 0), sp(5, 9), anySign), all},
		{"S alone has none", sc(tn(4, 0), sp(4, 4), sg(5, 5)), one(4)},
	} {
		if got := scalar.Low(x.a); got != x.want {
			t.Errorf("%s: Low(%x): %x, not %x", x.name, x.a, got, x.want)
		}
	}
}
