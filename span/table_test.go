package span_test

import (
	"math/big"
	"testing"

	"crossbar/api"
	"crossbar/span"
)

// numbers are edges of both kinds, in no order that matters.
var numbers = []uint64{
	0, 1, 2, 3, 7, 8, 1<<31 - 1, 1 << 31, 1<<31 + 1, 1<<32 - 2, 1<<32 - 1, 1 << 32, 1<<32 + 1, 3 << 32,
	top - 2, top - 1, top, top + 1, most - 1<<32, most - 1<<31, most - 1<<31 + 1, most - 8, most - 1, most, 0x0123456789ABCDEF,
}

// spans are all spans between two of the numbers.
func spans() []api.Span {
	var out []api.Span
	for _, lo := range numbers {
		for _, hi := range numbers {
			if lo <= hi {
				out = append(out, sp(lo, hi))
			}
		}
	}
	return out
}

// signeds are all signed spans between two of the numbers.
func signeds() []api.Signed {
	var out []api.Signed
	for _, lo := range numbers {
		for _, hi := range numbers {
			if int64(lo) <= int64(hi) {
				out = append(out, sg(int64(lo), int64(hi)))
			}
		}
	}
	return out
}

// num is a number without a width; snum of a signed one.
func num(v uint64) *big.Int { return new(big.Int).SetUint64(v) }
func snum(v int64) *big.Int { return big.NewInt(v) }

// sum, difference and product are of numbers without a width.
func sum(a, b *big.Int) *big.Int        { return new(big.Int).Add(a, b) }
func difference(a, b *big.Int) *big.Int { return new(big.Int).Sub(a, b) }
func product(a, b *big.Int) *big.Int    { return new(big.Int).Mul(a, b) }

// power is 2^n.
func power(n uint) *big.Int { return new(big.Int).Lsh(big.NewInt(1), n) }

// modulo is the rest from 0 on, of numbers below 0 too.
func modulo(a, b *big.Int) *big.Int { return new(big.Int).Mod(a, b) }

// fits tells whether a number is one of 64 bits.
func fits(v *big.Int) bool { return v.Cmp(modulo(v, power(64))) == 0 }

// taken is a span from one number to another, both modulo 2^64, or all if it doesn't hold.
func taken(holds bool, lo, hi *big.Int) api.Span {
	if !holds {
		return all
	}
	return sp(modulo(lo, power(64)).Uint64(), modulo(hi, power(64)).Uint64())
}

// signedTaken is a signed span from one number to another, or all if one isn't a signed number of 64 bits.
func signedTaken(lo, hi *big.Int) api.Signed {
	if !lo.IsInt64() || !hi.IsInt64() {
		return sall
	}
	return sg(lo.Int64(), hi.Int64())
}

// onesOf is the least of 0, 1, 3, 7 and so on that isn't less.
func onesOf(v uint64) uint64 {
	o := uint64(0)
	for o < v {
		o = 2*o + 1
	}
	return o
}

// unsignedOnes are the operations on two spans, what P4.2 says of each, and what each does to numbers.
var unsignedOnes = []struct {
	name   string
	f      func(a, b api.Span) api.Span
	want   func(a, b api.Span) api.Span
	number func(v, w uint64) uint64
}{
	{"Add", span.Add, func(a, b api.Span) api.Span {
		lo, hi := sum(num(a.Lo), num(b.Lo)), sum(num(a.Hi), num(b.Hi))
		return taken(fits(lo) == fits(hi), lo, hi)
	}, func(v, w uint64) uint64 { return v + w }},
	{"Sub", span.Sub, func(a, b api.Span) api.Span {
		lo, hi := difference(num(a.Lo), num(b.Hi)), difference(num(a.Hi), num(b.Lo))
		return taken(fits(lo) == fits(hi), lo, hi)
	}, func(v, w uint64) uint64 { return v - w }},
	{"Mul", span.Mul, func(a, b api.Span) api.Span {
		lo, hi := product(num(a.Lo), num(b.Lo)), product(num(a.Hi), num(b.Hi))
		return taken(fits(hi), lo, hi)
	}, func(v, w uint64) uint64 { return v * w }},
	{"Div", span.Div, divOf, quotient},
	{"Mod", span.Mod, modOf, rest},
	{"And", span.And, func(a, b api.Span) api.Span { return sp(0, min(a.Hi, b.Hi)) }, func(v, w uint64) uint64 { return v & w }},
	{"Or", span.Or, func(a, b api.Span) api.Span { return sp(max(a.Lo, b.Lo), onesOf(max(a.Hi, b.Hi))) }, func(v, w uint64) uint64 { return v | w }},
	{"Xor", span.Xor, func(a, b api.Span) api.Span { return sp(0, onesOf(max(a.Hi, b.Hi))) }, func(v, w uint64) uint64 { return v ^ w }},
}

// quotient is 0 by 0.
func quotient(v, w uint64) uint64 {
	if w == 0 {
		return 0
	}
	return v / w
}

// rest is the number itself by 0.
func rest(v, w uint64) uint64 {
	if w == 0 {
		return v
	}
	return v % w
}

// divOf is what P4.2 says of Div.
func divOf(a, b api.Span) api.Span {
	if b == of(0) {
		return of(0)
	}
	if b.Lo == 0 {
		return sp(0, a.Hi)
	}
	return sp(a.Lo/b.Hi, a.Hi/b.Lo)
}

// modOf is what P4.2 says of Mod.
func modOf(a, b api.Span) api.Span {
	if b == of(0) || a.Hi < b.Lo {
		return a
	}
	if b.Lo == 0 {
		return sp(0, a.Hi)
	}
	return sp(0, min(a.Hi, b.Hi-1))
}

// signedOnes are the operations on two signed spans, likewise; their numbers have no width.
var signedOnes = []struct {
	name   string
	f      func(a, b api.Signed) api.Signed
	want   func(a, b api.Signed) api.Signed
	number func(v, w int64) *big.Int
}{
	{"Sadd", span.Sadd, func(a, b api.Signed) api.Signed {
		return signedTaken(sum(snum(a.Lo), snum(b.Lo)), sum(snum(a.Hi), snum(b.Hi)))
	}, func(v, w int64) *big.Int { return sum(snum(v), snum(w)) }},
	{"Ssub", span.Ssub, func(a, b api.Signed) api.Signed {
		return signedTaken(difference(snum(a.Lo), snum(b.Hi)), difference(snum(a.Hi), snum(b.Lo)))
	}, func(v, w int64) *big.Int { return difference(snum(v), snum(w)) }},
}

// P4.2 and P4.3, the operations on every two spans between edges.
func TestOperationsOfAll(t *testing.T) {
	list := spans()
	for _, o := range unsignedOnes {
		for _, a := range list {
			for _, b := range list {
				if got, want := o.f(a, b), o.want(a, b); got != want {
					t.Fatalf("%s(%#x, %#x): %#x, not %#x", o.name, a, b, got, want)
				}
			}
		}
	}
	slist := signeds()
	for _, o := range signedOnes {
		for _, a := range slist {
			for _, b := range slist {
				if got, want := o.f(a, b), o.want(a, b); got != want {
					t.Fatalf("%s(%d, %d): %d, not %d", o.name, a, b, got, want)
				}
			}
		}
	}
}

// places is n modulo 64.
func places(n int) uint { return uint(modulo(snum(int64(n)), snum(64)).Uint64()) }

// P4.2 and P4.3: shifts of all spans between edges, by counts from below -64 to above 128.
func TestShiftsOfAll(t *testing.T) {
	for n := -70; n <= 135; n++ {
		by := power(places(n))
		for _, a := range spans() {
			lo, hi := product(num(a.Lo), by), product(num(a.Hi), by)
			if got, want := span.Lsh(a, n), taken(fits(hi), lo, hi); got != want {
				t.Fatalf("Lsh(%#x, %d): %#x, not %#x", a, n, got, want)
			}
			// Div of math/big rounds down by what is above 0.
			lo, hi = new(big.Int).Div(num(a.Lo), by), new(big.Int).Div(num(a.Hi), by)
			if got, want := span.Rsh(a, n), taken(true, lo, hi); got != want {
				t.Fatalf("Rsh(%#x, %d): %#x, not %#x", a, n, got, want)
			}
		}
		for _, a := range signeds() {
			lo, hi := new(big.Int).Div(snum(a.Lo), by), new(big.Int).Div(snum(a.Hi), by)
			if got, want := span.Sarsh(a, n), signedTaken(lo, hi); got != want {
				t.Fatalf("Sarsh(%d, %d): %d, not %d", a, n, got, want)
			}
		}
	}
}

// P4.2 to P4.4: Cut, Scut, ToSigned, ToSpan and Bits of all spans between edges.
func TestTurnedOfAll(t *testing.T) {
	for _, a := range spans() {
		lo, hi := a.Lo%(1<<32), a.Hi%(1<<32)
		cut := sp(lo, hi)
		if a.Hi-a.Lo >= 1<<32 || lo > hi {
			cut = sp(0, 1<<32-1)
		}
		if got := span.Cut(a); got != cut {
			t.Fatalf("Cut(%#x): %#x, not %#x", a, got, cut)
		}
		turned := sall
		if (a.Lo < top) == (a.Hi < top) {
			turned = sg(int64(a.Lo), int64(a.Hi))
		}
		if got := span.ToSigned(a); got != turned {
			t.Fatalf("ToSigned(%#x): %d, not %d", a, got, turned)
		}
		known := most
		for known&a.Lo != known&a.Hi {
			known <<= 1
		}
		if got, want := span.Bits(a), tn(a.Lo&known, ^known); got != want {
			t.Fatalf("Bits(%#x): %#x, not %#x", a, got, want)
		}
	}
	for _, a := range signeds() {
		cut := a
		if a.Lo < -1<<31 || a.Hi >= 1<<31 {
			cut = sg(-1<<31, 1<<31-1)
		}
		if got := span.Scut(a); got != cut {
			t.Fatalf("Scut(%d): %d, not %d", a, got, cut)
		}
		turned := all
		if (a.Lo < 0) == (a.Hi < 0) {
			turned = sp(uint64(a.Lo), uint64(a.Hi))
		}
		if got := span.ToSpan(a); got != turned {
			t.Fatalf("ToSpan(%d): %#x, not %#x", a, got, turned)
		}
	}
}
