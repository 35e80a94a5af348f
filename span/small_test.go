package span_test

import (
	"testing"

	"crossbar/api"
	"crossbar/span"
)

// side is how many numbers a window has.
const side = 7

// windows are where small spans lie: the first number of each, and six more; signed ones lie at the same bits.
var windows = []uint64{0, 5, 1<<31 - 4, 1<<32 - 4, top - side, top, most - 1<<31 - 3, most - 6}

// across is a window of signed numbers on both sides of 0.
const across = most - 2

// small are all spans within a window.
func small(from uint64) []api.Span {
	var out []api.Span
	for i := range uint64(side) {
		for j := i; j < side; j++ {
			out = append(out, sp(from+i, from+j))
		}
	}
	return out
}

// signedSmall are all signed spans within a window.
func signedSmall(from uint64) []api.Signed {
	var out []api.Signed
	for i := range int64(side) {
		for j := i; j < side; j++ {
			out = append(out, sg(int64(from)+i, int64(from)+j))
		}
	}
	return out
}

// members are the numbers of a small span.
func members(a api.Span) []uint64 {
	var out []uint64
	for i := range a.Hi - a.Lo + 1 {
		out = append(out, a.Lo+i)
	}
	return out
}

// signedMembers likewise.
func signedMembers(a api.Signed) []int64 {
	var out []int64
	for i := range a.Hi - a.Lo + 1 {
		out = append(out, a.Lo+i)
	}
	return out
}

// has tells whether a span contains a number, whatever span.In says.
func has(a api.Span, v uint64) bool { return a.Lo <= v && v <= a.Hi }

// shas likewise.
func shas(a api.Signed, v int64) bool { return a.Lo <= v && v <= a.Hi }

// holds tells whether a tnum has a number.
func holds(t api.Tnum, v uint64) bool { return (v^t.Value)&^t.Mask == 0 }

// P4.5: no result of two numbers is missed, of all numbers of all small spans.
func TestOperationsOfSmall(t *testing.T) {
	for _, from := range windows {
		for _, to := range windows {
			for _, a := range small(from) {
				for _, b := range small(to) {
					for _, o := range unsignedOnes {
						r := o.f(a, b)
						for _, v := range members(a) {
							for _, w := range members(b) {
								if !has(r, o.number(v, w)) {
									t.Fatalf("%s(%#x, %#x): %#x hasn't that of %#x and %#x", o.name, a, b, r, v, w)
								}
							}
						}
					}
				}
			}
		}
	}
}

// P4.5: likewise, of signed ones; where there is no such number of 64 bits, the one that wraps round.
func TestSignedOperationsOfSmall(t *testing.T) {
	for _, from := range append(windows, across) {
		for _, to := range append(windows, across) {
			for _, a := range signedSmall(from) {
				for _, b := range signedSmall(to) {
					add, sub := span.Sadd(a, b), span.Ssub(a, b)
					for _, v := range signedMembers(a) {
						for _, w := range signedMembers(b) {
							if !shas(add, v+w) || !shas(sub, v-w) {
								t.Fatalf("Sadd, Ssub of %d and %d: %d, %d haven't those of %d and %d", a, b, add, sub, v, w)
							}
						}
					}
				}
			}
		}
	}
}

// P4.5: shifts, halves and numbers of the other kind, of all numbers of small spans.
func TestTurnedOfSmall(t *testing.T) {
	for _, from := range windows {
		for _, a := range small(from) {
			for _, v := range members(a) {
				if !has(span.Cut(a), v%(1<<32)) || !shas(span.ToSigned(a), int64(v)) || !holds(span.Bits(a), v) {
					t.Fatalf("Cut, ToSigned, Bits of %#x: one hasn't %#x", a, v)
				}
				for n := range 64 {
					if !has(span.Lsh(a, n), v<<n) || !has(span.Rsh(a, n), v>>n) {
						t.Fatalf("Lsh, Rsh of %#x by %d: one hasn't %#x", a, n, v)
					}
				}
			}
		}
	}
	for _, from := range append(windows, across) {
		for _, a := range signedSmall(from) {
			for _, v := range signedMembers(a) {
				if !shas(span.Scut(a), int64(int32(v))) || !has(span.ToSpan(a), uint64(v)) {
					t.Fatalf("Scut, ToSpan of %d: one hasn't %d", a, v)
				}
				for n := range 64 {
					if !shas(span.Sarsh(a, n), v>>n) {
						t.Fatalf("Sarsh of %d by %d hasn't %d", a, n, v)
					}
				}
			}
		}
	}
}

// sets are the calls of P4.1 on spans of either kind, S, whose numbers are N; from is the span between two.
type sets[N uint64 | int64, S comparable] struct {
	from   func(lo, hi N) S
	in     func(a S, v N) bool
	within func(a, b S) bool
	join   func(a, b S) S
	meet   func(a, b S) (S, bool)
}

// P4.1: In, Within, Join and Meet and the signed ones, held against all numbers of small spans of one window.
func TestSetsOfSmall(t *testing.T) {
	for _, from := range windows {
		setsOfSmall(t, from, sets[uint64, api.Span]{sp, span.In, span.Within, span.Join, span.Meet})
	}
	for _, from := range append(windows, across) {
		setsOfSmall(t, int64(from), sets[int64, api.Signed]{sg, span.Sin, span.Swithin, span.Sjoin, span.Smeet})
	}
}

// setsOfSmall holds the calls against all pairs of spans of a window that begins with that number.
func setsOfSmall[N uint64 | int64, S comparable](t *testing.T, from N, calls sets[N, S]) {
	t.Helper()
	for i := range side * side {
		for j := range side * side {
			a, b := [2]N{from + N(i/side), from + N(i%side)}, [2]N{from + N(j/side), from + N(j%side)}
			if a[0] <= a[1] && b[0] <= b[1] {
				setsOf(t, from, a, b, calls)
			}
		}
	}
}

// setsOf holds the calls on two spans, given by their ends, against all numbers of a window.
func setsOf[N uint64 | int64, S comparable](t *testing.T, from N, a, b [2]N, calls sets[N, S]) {
	t.Helper()
	x, y := calls.from(a[0], a[1]), calls.from(b[0], b[1])
	within := true
	var common, either []N
	for i := range side {
		v := from + N(i)
		one, other := a[0] <= v && v <= a[1], b[0] <= v && v <= b[1]
		if calls.in(x, v) != one {
			t.Fatalf("in(%v, %v): %v", x, v, !one)
		}
		within = within && (other || !one)
		if one && other {
			common = append(common, v)
		}
		if one || other {
			either = append(either, v)
		}
	}
	if calls.within(x, y) != within {
		t.Fatalf("within(%v, %v): %v", x, y, !within)
	}
	if got := calls.join(x, y); got != calls.from(either[0], either[len(either)-1]) {
		t.Fatalf("join(%v, %v): %v, those of either are %v", x, y, got, either)
	}
	want := calls.from(0, 0)
	if len(common) > 0 {
		want = calls.from(common[0], common[len(common)-1])
	}
	if got, ok := calls.meet(x, y); got != want || ok != (len(common) > 0) {
		t.Fatalf("meet(%v, %v): %v, %v, in common are %v", x, y, got, ok, common)
	}
}

// tnums are all tnums with any bits at these places, and those of ground at all others.
func tnums(at []int, ground uint64) []api.Tnum {
	out := []api.Tnum{tn(ground, 0)}
	for _, n := range at {
		var next []api.Tnum
		bit := uint64(1) << n
		for _, a := range out {
			next = append(next, tn(a.Value&^bit, a.Mask), tn(a.Value|bit, a.Mask), tn(a.Value&^bit, a.Mask|bit))
		}
		out = next
	}
	return out
}

// P4.4 and P4.5: Bounds and Sbounds are from the least number of a tnum to the greatest one.
func TestBoundsOfSmall(t *testing.T) {
	for _, at := range [][]int{{0, 1, 2, 3}, {0, 31, 32, 63}, {60, 61, 62, 63}} {
		for _, ground := range []uint64{0, most, 0x5555555555555555, 0xAAAAAAAAAAAAAAAA} {
			for _, a := range tnums(at, ground) {
				want, swant := sp(most, 0), sg(greatest, least)
				for _, b := range tnums(at, ground) {
					if b.Mask == 0 && holds(a, b.Value) {
						v := b.Value
						want = sp(min(want.Lo, v), max(want.Hi, v))
						swant = sg(min(swant.Lo, int64(v)), max(swant.Hi, int64(v)))
					}
				}
				if got := span.Bounds(a); got != want {
					t.Fatalf("Bounds(%#x): %#x, not %#x", a, got, want)
				}
				if got := span.Sbounds(a); got != swant {
					t.Fatalf("Sbounds(%#x): %d, not %d", a, got, swant)
				}
			}
		}
	}
}

// P4.7: each bit that Bits doesn't know is 0 in one number and 1 in another; where no one can count them, the numbers next to the ends and to where the highest bit changes are enough.
func TestBitsAreMinimal(t *testing.T) {
	for _, from := range windows {
		for _, a := range small(from) {
			minimal(t, a, members(a))
		}
	}
	for _, a := range spans() {
		numbers := []uint64{a.Lo, a.Hi}
		for n := range 64 {
			// The greatest number with a bit 0 below the common ones, and the next one.
			if v := a.Hi >> n << n; v > a.Lo {
				numbers = append(numbers, v-1, v)
			}
		}
		minimal(t, a, numbers)
	}
}

// minimal holds Bits of a span against some numbers of it, among which every bit changes that changes at all.
func minimal(t *testing.T, a api.Span, numbers []uint64) {
	t.Helper()
	always, ever := most, uint64(0)
	for _, v := range numbers {
		always, ever = always&v, ever|v
	}
	if got := span.Bits(a); got.Mask&^(ever&^always) != 0 || got.Value&got.Mask != 0 {
		t.Fatalf("Bits(%#x): %#x, and %#x change", a, got, ever&^always)
	}
}

// P4.6: what is a single number for single numbers.
func TestSingleNumbers(t *testing.T) {
	for _, v := range numbers {
		for _, w := range numbers {
			singles(t, v, w)
			signedSingles(t, int64(v), int64(w))
		}
		for n := range 64 {
			if got := span.Rsh(of(v), n); got != of(v>>n) {
				t.Fatalf("Rsh of %#x by %d: %#x", v, n, got)
			}
			if got := span.Lsh(of(v), n); v<<n>>n == v && got != of(v<<n) {
				t.Fatalf("Lsh of %#x by %d: %#x", v, n, got)
			}
			if got := span.Sarsh(sof(int64(v)), n); got != sof(int64(v)>>n) {
				t.Fatalf("Sarsh of %d by %d: %d", int64(v), n, got)
			}
		}
		if got := span.Cut(of(v)); got != of(v%(1<<32)) {
			t.Fatalf("Cut of %#x: %#x", v, got)
		}
		if s := int64(v); s == int64(int32(s)) && span.Scut(sof(s)) != sof(s) {
			t.Fatalf("Scut of %d: %d", s, span.Scut(sof(s)))
		}
	}
}

// singles holds operations on two numbers alone against their results.
func singles(t *testing.T, v, w uint64) {
	t.Helper()
	for _, o := range unsignedOnes {
		single := true
		switch o.name {
		case "Mul":
			single = fits(product(num(v), num(w)))
		case "Mod":
			single = w == 0 || w > v
		case "And", "Or", "Xor":
			single = false
		}
		if got := o.f(of(v), of(w)); single && got != of(o.number(v, w)) {
			t.Fatalf("%s of %#x and %#x: %#x", o.name, v, w, got)
		}
	}
}

// signedSingles likewise, where the result fits.
func signedSingles(t *testing.T, v, w int64) {
	t.Helper()
	for _, o := range signedOnes {
		want := o.number(v, w)
		if got := o.f(sof(v), sof(w)); want.IsInt64() && got != sof(want.Int64()) {
			t.Fatalf("%s of %d and %d: %d", o.name, v, w, got)
		}
	}
}
