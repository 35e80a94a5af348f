package span_test

import (
	"math"
	"testing"

	"crossbar/api"
	"crossbar/span"
)

const (
	least    int64 = math.MinInt64
	greatest int64 = math.MaxInt64
)

// sg is a signed span.
func sg(lo, hi int64) api.Signed { return api.Signed{Lo: lo, Hi: hi} }

// sof is a number alone, whatever span.Sof says.
func sof(v int64) api.Signed { return sg(v, v) }

// sall is all numbers, whatever span.Sall says.
var sall = sg(least, greatest)

// P4.1: Sof and Sall.
func TestSofAndSall(t *testing.T) {
	for _, n := range numbers {
		if v := int64(n); span.Sof(v) != sof(v) {
			t.Errorf("Sof(%d): %d", v, span.Sof(v))
		}
	}
	if got := span.Sall(); got != sall {
		t.Errorf("Sall: %d", got)
	}
}

// P4.1: Sin, at and round both ends.
func TestSin(t *testing.T) {
	for _, x := range []struct {
		a    api.Signed
		v    int64
		want bool
	}{
		{sg(-2, 1), -3, false}, {sg(-2, 1), -2, true}, {sg(-2, 1), -1, true}, {sg(-2, 1), 0, true}, {sg(-2, 1), 1, true}, {sg(-2, 1), 2, false},
		{sg(4, 6), -5, false}, {sg(-6, -4), 5, false}, {sg(-6, -4), -5, true},
		{sof(0), 0, true}, {sof(0), -1, false}, {sof(0), 1, false},
		{sof(least), least, true}, {sof(least), least + 1, false}, {sof(least), greatest, false},
		{sof(greatest), greatest, true}, {sof(greatest), greatest - 1, false}, {sof(greatest), least, false},
		{sall, least, true}, {sall, -1, true}, {sall, 0, true}, {sall, greatest, true},
		{sg(least+1, greatest-1), least, false}, {sg(least+1, greatest-1), greatest, false},
	} {
		if got := span.Sin(x.a, x.v); got != x.want {
			t.Errorf("Sin(%d, %d): %v", x.a, x.v, got)
		}
	}
}

// P4.1: Swithin, Sjoin and Smeet, of spans apart, side by side, that share an end, one within the other, and alike.
func TestSignedSets(t *testing.T) {
	for _, x := range []struct {
		a, b   api.Signed
		within bool
		join   api.Signed
		meet   api.Signed
		ok     bool
	}{
		{sg(-9, -5), sg(1, 2), false, sg(-9, 2), sg(0, 0), false},
		{sg(1, 2), sg(-9, -5), false, sg(-9, 2), sg(0, 0), false},
		{sg(-9, -1), sg(0, 2), false, sg(-9, 2), sg(0, 0), false},
		{sg(-9, 0), sg(0, 2), false, sg(-9, 2), sof(0), true},
		{sg(-9, 1), sg(-3, 2), false, sg(-9, 2), sg(-3, 1), true},
		{sg(-3, 2), sg(-9, 1), false, sg(-9, 2), sg(-3, 1), true},
		{sg(-3, 1), sg(-3, 2), true, sg(-3, 2), sg(-3, 1), true},
		{sg(-2, 2), sg(-3, 2), true, sg(-3, 2), sg(-2, 2), true},
		{sg(-2, 1), sg(-3, 2), true, sg(-3, 2), sg(-2, 1), true},
		{sg(-3, 2), sg(-2, 1), false, sg(-3, 2), sg(-2, 1), true},
		{sg(-4, 1), sg(-3, 2), false, sg(-4, 2), sg(-3, 1), true},
		{sg(-3, 2), sg(-3, 2), true, sg(-3, 2), sg(-3, 2), true},
		{sof(-7), sof(-7), true, sof(-7), sof(-7), true},
		{sof(-7), sof(-6), false, sg(-7, -6), sg(0, 0), false},
		{sof(least), sof(greatest), false, sall, sg(0, 0), false},
		{sof(greatest), sof(least), false, sall, sg(0, 0), false},
		{sall, sall, true, sall, sall, true},
		{sall, sg(least, greatest-1), false, sall, sg(least, greatest-1), true},
		{sg(least+1, greatest), sall, true, sall, sg(least+1, greatest), true},
		{sg(least, -1), sg(0, greatest), false, sall, sg(0, 0), false},
	} {
		if got := span.Swithin(x.a, x.b); got != x.within {
			t.Errorf("Swithin(%d, %d): %v", x.a, x.b, got)
		}
		if got := span.Sjoin(x.a, x.b); got != x.join {
			t.Errorf("Sjoin(%d, %d): %d, not %d", x.a, x.b, got, x.join)
		}
		if got, ok := span.Smeet(x.a, x.b); got != x.meet || ok != x.ok {
			t.Errorf("Smeet(%d, %d): %d, %v, not %d, %v", x.a, x.b, got, ok, x.meet, x.ok)
		}
	}
}

// P4.3: Sadd and Ssub, whose ends fit, or just one of them, or neither.
func TestSignedOperations(t *testing.T) {
	for _, x := range []struct {
		name string
		f    func(a, b api.Signed) api.Signed
		a, b api.Signed
		want api.Signed
	}{
		{"Sadd", span.Sadd, sg(-3, 2), sof(5), sg(2, 7)},
		{"Sadd of two below 0", span.Sadd, sg(-3, -2), sg(-9, -8), sg(-12, -10)},
		{"Sadd up to the greatest", span.Sadd, sg(0, greatest-2), sof(2), sg(2, greatest)},
		{"Sadd beyond the greatest, Hi alone", span.Sadd, sg(0, greatest-1), sof(2), sall},
		{"Sadd beyond the greatest, both", span.Sadd, sg(greatest-1, greatest), sof(2), sall},
		{"Sadd down to the least", span.Sadd, sg(least+2, 0), sof(-2), sg(least, -2)},
		{"Sadd below the least, Lo alone", span.Sadd, sg(least+1, 0), sof(-2), sall},
		{"Sadd below the least, both", span.Sadd, sof(least), sof(-1), sall},
		{"Sadd below and beyond", span.Sadd, sall, sall, sall},
		{"Sadd of the ends", span.Sadd, sof(least), sof(greatest), sof(-1)},
		{"Sadd of all and 0", span.Sadd, sall, sof(0), sall},
		{"Sadd past -1", span.Sadd, sof(-1), sof(1), sof(0)},
		{"Sadd of the least twice", span.Sadd, sof(least), sof(least), sall},
		{"Ssub", span.Ssub, sg(-3, 2), sg(5, 6), sg(-9, -3)},
		{"Ssub of one below 0", span.Ssub, sg(-3, 2), sg(-6, -5), sg(2, 8)},
		{"Ssub up to the greatest", span.Ssub, sof(-1), sof(least), sof(greatest)},
		{"Ssub beyond the greatest", span.Ssub, sof(0), sof(least), sall},
		{"Ssub beyond the greatest, Hi alone", span.Ssub, sg(-1, 0), sof(least), sall},
		{"Ssub down to the least", span.Ssub, sof(-2), sof(greatest - 1), sof(least)},
		{"Ssub below the least", span.Ssub, sof(-2), sof(greatest), sall},
		{"Ssub below the least, Lo alone", span.Ssub, sg(-2, -1), sof(greatest), sall},
		{"Ssub below the least, Lo alone, by b's Hi", span.Ssub, sof(-2), sg(0, greatest), sall},
		{"Ssub of all and 0", span.Ssub, sall, sof(0), sall},
		{"Ssub of the least from itself", span.Ssub, sof(least), sof(least), sof(0)},
		{"Ssub of the greatest from 0", span.Ssub, sof(0), sof(greatest), sof(least + 1)},
	} {
		if got := x.f(x.a, x.b); got != x.want {
			t.Errorf("%s: of %d and %d: %d, not %d", x.name, x.a, x.b, got, x.want)
		}
	}
}

// P4.3: Sarsh, by counts on both sides of 64 and below 0.
func TestSarsh(t *testing.T) {
	for _, x := range []struct {
		a    api.Signed
		n    int
		want api.Signed
	}{
		{sg(-3, 3), 0, sg(-3, 3)}, {sg(-3, 3), 64, sg(-3, 3)}, {sg(-3, 3), -64, sg(-3, 3)},
		{sg(-3, 3), 1, sg(-2, 1)}, {sg(-3, 3), 65, sg(-2, 1)}, {sg(-3, 3), -63, sg(-2, 1)}, {sg(-3, 3), math.MinInt + 1, sg(-2, 1)},
		{sg(-3, 3), 63, sg(-1, 0)}, {sg(-3, 3), -1, sg(-1, 0)}, {sg(-3, 3), math.MaxInt, sg(-1, 0)},
		{sg(-8, -4), 2, sg(-2, -1)}, {sof(-1), 1, sof(-1)}, {sof(0), 63, sof(0)},
		{sall, 0, sall}, {sall, 1, sg(-1<<62, 1<<62-1)}, {sall, 63, sg(-1, 0)}, {sall, 62, sg(-2, 1)},
		{sof(least), 63, sof(-1)}, {sof(least), 62, sof(-2)}, {sof(greatest), 63, sof(0)}, {sof(greatest), 62, sof(1)},
	} {
		if got := span.Sarsh(x.a, x.n); got != x.want {
			t.Errorf("Sarsh(%d, %d): %d, not %d", x.a, x.n, got, x.want)
		}
	}
}

// P4.3: Scut, on both sides of its bounds.
func TestScut(t *testing.T) {
	const lo, hi = math.MinInt32, math.MaxInt32
	halves := sg(lo, hi)
	for _, x := range []struct{ a, want api.Signed }{
		{sof(0), sof(0)}, {sof(-1), sof(-1)}, {sg(-3, 5), sg(-3, 5)},
		{halves, halves}, {sof(lo), sof(lo)}, {sof(hi), sof(hi)}, {sg(lo, lo+1), sg(lo, lo+1)}, {sg(hi-1, hi), sg(hi-1, hi)},
		{sof(lo - 1), halves}, {sof(hi + 1), halves}, {sg(lo-1, 0), halves}, {sg(0, hi+1), halves}, {sg(lo-1, lo), halves}, {sg(hi, hi+1), halves},
		{sg(1<<32+3, 1<<32+5), halves}, {sof(-1 << 32), halves}, {sof(least), halves}, {sof(greatest), halves}, {sall, halves},
	} {
		if got := span.Scut(x.a); got != x.want {
			t.Errorf("Scut(%d): %d, not %d", x.a, got, x.want)
		}
	}
}

// P4.4: ToSigned and ToSpan, where both ends have the same sign and where they have not.
func TestTurned(t *testing.T) {
	for _, x := range []struct {
		a    api.Span
		want api.Signed
	}{
		{of(0), sof(0)}, {sp(4, 6), sg(4, 6)}, {sp(0, top-1), sg(0, greatest)}, {of(top - 1), sof(greatest)},
		{sp(top, most), sg(least, -1)}, {of(top), sof(least)}, {of(most), sof(-1)}, {sp(most-5, most-3), sg(-6, -4)},
		{sp(0, top), sall}, {sp(top-1, top), sall}, {sp(5, most), sall}, {all, sall},
	} {
		if got := span.ToSigned(x.a); got != x.want {
			t.Errorf("ToSigned(%#x): %d, not %d", x.a, got, x.want)
		}
	}
	for _, x := range []struct {
		a    api.Signed
		want api.Span
	}{
		{sof(0), of(0)}, {sg(4, 6), sp(4, 6)}, {sg(0, greatest), sp(0, top-1)}, {sof(greatest), of(top - 1)},
		{sg(least, -1), sp(top, most)}, {sof(least), of(top)}, {sof(-1), of(most)}, {sg(-6, -4), sp(most-5, most-3)}, {sg(-2, -1), sp(most-1, most)},
		{sg(-1, 0), all}, {sg(least, 0), all}, {sg(-5, 3), all}, {sg(-1, greatest), all}, {sall, all},
	} {
		if got := span.ToSpan(x.a); got != x.want {
			t.Errorf("ToSpan(%d): %#x, not %#x", x.a, got, x.want)
		}
	}
}

// P4.4: Sbounds, of tnums whose highest bit is 0, 1 and unknown.
func TestSbounds(t *testing.T) {
	for _, x := range []struct {
		t    api.Tnum
		want api.Signed
	}{
		{tn(0, 0), sof(0)}, {tn(4, 3), sg(4, 7)}, {tn(0, top-1), sg(0, greatest)}, {tn(top-1, 0), sof(greatest)},
		{tn(top, 0), sof(least)}, {tn(most, 0), sof(-1)}, {tn(top, 3), sg(least, least+3)}, {tn(top, top-1), sg(least, -1)}, {tn(top+1, 6), sg(least+1, least+7)},
		{tn(0, top), sg(least, 0)}, {tn(1, top|2), sg(least+1, 3)}, {tn(top-1, top), sg(-1, greatest)}, {tn(4, top|3), sg(least+4, 7)}, {tn(0, most), sall},
	} {
		if got := span.Sbounds(x.t); got != x.want {
			t.Errorf("Sbounds(%#x): %d, not %d", x.t, got, x.want)
		}
	}
}
