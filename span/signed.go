package span

import (
	"math"

	"crossbar/api"
)

// top is the bit that is 1 in numbers below 0.
const top = 1 << 63

// Sof is a number alone.
func Sof(v int64) api.Signed { return toSigned(only(v)) }

// Sall is all numbers.
func Sall() api.Signed { return api.Signed{Lo: math.MinInt64, Hi: math.MaxInt64} }

// Sin tells whether it has a number.
func Sin(a api.Signed, v int64) bool { return within(only(v), signed(a)) }

// Swithin tells whether b has all that a has.
func Swithin(a, b api.Signed) bool { return within(signed(a), signed(b)) }

// Sjoin has what both have.
func Sjoin(a, b api.Signed) api.Signed { return toSigned(join(signed(a), signed(b))) }

// Smeet is what both have.
func Smeet(a, b api.Signed) (api.Signed, bool) {
	r, ok := meet(signed(a), signed(b))
	return toSigned(r), ok
}

// Sadd is a sum.
func Sadd(a, b api.Signed) api.Signed {
	r, low, high := add(signed(a), signed(b))
	return both(r, low, high)
}

// Ssub is a difference.
func Ssub(a, b api.Signed) api.Signed {
	r, low, high := sub(signed(a), signed(b))
	return both(r, low, high)
}

// Sarsh is less by bits.
func Sarsh(a api.Signed, n int) api.Signed { return toSigned(down(signed(a), n)) }

// Scut is the lower halves.
func Scut(a api.Signed) api.Signed {
	halves := api.Signed{Lo: math.MinInt32, Hi: math.MaxInt32}
	if !Swithin(a, halves) {
		return halves
	}
	return a
}

// ToSigned is the numbers, signed.
func ToSigned(a api.Span) api.Signed {
	if r, ok := turned[int64](unsigned(a)); ok {
		return toSigned(r)
	}
	return Sall()
}

// ToSpan is the numbers without sign.
func ToSpan(a api.Signed) api.Span {
	if r, ok := turned[uint64](signed(a)); ok {
		return toUnsigned(r)
	}
	return All()
}

// Sbounds is from where to where bits are, signed.
func Sbounds(t api.Tnum) api.Signed {
	// The highest bit alone makes a number less where it is 1.
	return api.Signed{Lo: int64(t.Value | t.Mask&top), Hi: int64(t.Value | t.Mask&^top)}
}

// signed is the ends of a signed span.
func signed(a api.Signed) ends[int64] { return ends[int64]{lo: a.Lo, hi: a.Hi} }

// toSigned is the signed span with these ends.
func toSigned(e ends[int64]) api.Signed { return api.Signed{Lo: e.lo, Hi: e.hi} }

// both is a signed span if both of its ends fit, and all numbers otherwise.
func both(e ends[int64], low, high bool) api.Signed {
	if !low || !high {
		return Sall()
	}
	return toSigned(e)
}
