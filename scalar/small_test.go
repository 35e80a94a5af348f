package scalar_test

import (
	"math"
	"testing"

	"crossbar/api"
	"crossbar/scalar"
	"crossbar/word"
)

// side is how many numbers a window has.
const side = 8

// windows are where small scalars lie: the first number of each; the ends of numbers of 32 bits and 64, signed and unsigned, are among them.
var windows = []uint64{0, 1<<31 - 4, 1<<32 - 4, 1 << 40, top - 4, most - 1<<32 - 3, most - 7}

// within are the numbers of a window that a scalar contains.
func within(window uint64, a api.Scalar) []uint64 {
	var out []uint64
	for i := range uint64(side) {
		if has(a, window+i) {
			out = append(out, window+i)
		}
	}
	return out
}

// masks are tnums that know nothing, the lowest bits, or what differs in the midst of a window.
func masks(window uint64) []api.Tnum {
	out := []api.Tnum{anyBits}
	for v := range uint64(4) {
		out = append(out, tn(v, most-3), tn(v&1, most-1), tn(v&2, most-2))
	}
	mid := window + 4
	return append(out, tn(mid, 3), tn(window&^3, 3), tn(mid&^2, 2), tn(mid, 0))
}

// signs are signed spans that a window knows: all numbers, some of it, and those beside 0.
func signs(window uint64) []api.Signed {
	out := []api.Signed{anySign, sg(math.MinInt64, -1), sg(0, math.MaxInt64)}
	for i := range int64(side) {
		lo := int64(window) + i
		out = append(out, sg(lo, lo), sg(lo, math.MaxInt64), sg(math.MinInt64, lo))
		if hi := lo + 2; hi >= lo {
			out = append(out, sg(lo, hi))
		}
	}
	return out
}

// spans are all spans within a window.
func spans(window uint64) []api.Span {
	var out []api.Span
	for i := range uint64(side) {
		for j := i; j < side; j++ {
			out = append(out, sp(window+i, window+j))
		}
	}
	return out
}

// P5.7: Norm's scalar contains the same numbers, and there is one wherever a number is contained; nothing that was ruled out is in it.
func TestSettlingOfSmall(t *testing.T) {
	for _, window := range windows {
		for _, b := range masks(window) {
			for _, u := range spans(window) {
				for _, s := range signs(window) {
					settling(t, window, sc(b, u, s))
				}
			}
		}
	}
}

func settling(t *testing.T, window uint64, a api.Scalar) {
	t.Helper()
	n, ok := scalar.Norm(a)
	if !ok {
		if l := within(window, a); len(l) > 0 || n != all {
			t.Fatalf("Norm(%x): %x, false, though it has %x", a, n, l)
		}
		return
	}
	if !scalar.Within(n, a) {
		t.Fatalf("Norm(%x): %x, which is not within it", a, n)
	}
	for i := range uint64(side) {
		if v := window + i; has(n, v) != has(a, v) || scalar.In(a, v) != has(a, v) {
			t.Fatalf("Norm(%x): %x; In of %#x: %v", a, n, v, scalar.In(a, v))
		}
	}
}

// few are some scalars of a window: settled and not, one number and more, of T, of U and of S.
func few(window uint64) []api.Scalar {
	span := sp(window, window+side-1)
	out := []api.Scalar{one(window + 3), one(window + 4), from(window+4, window+7), from(window+2, window+5), from(window, window+1), sc(anyBits, span, anySign), from(window, window+side-1)}
	for _, b := range []api.Tnum{tn(1, most-1), tn(2, most-3), tn((window+4)&^3, 3)} {
		out = append(out, sc(b, span, anySign), settled(sc(b, span, anySign)))
	}
	lo := int64(window + 5)
	return append(out, sc(anyBits, span, sg(lo, lo+1)), sc(anyBits, span, sg(lo-2, math.MaxInt64)), sc(anyBits, sp(window+1, window+6), sg(math.MinInt64, lo-1)), sc(tn(1, most-1), sp(window+1, window+6), sg(math.MinInt64, -1)))
}

// pairs calls f with each two small scalars and their numbers.
func pairs(f func(a, b api.Scalar, x, y []uint64)) {
	for _, first := range windows {
		for _, second := range append(windows, 28, 60) {
			for _, a := range few(first) {
				for _, b := range few(second) {
					f(a, b, within(first, a), within(second, b))
				}
			}
		}
	}
}

// P5.6: no result of two numbers is missed.
func TestAluIsSound(t *testing.T) {
	pairs(func(a, b api.Scalar, x, y []uint64) {
		for _, op := range operations {
			for _, wide := range []bool{false, true} {
				r := scalar.Alu(op, wide, a, b)
				for _, v := range x {
					for _, w := range y {
						if n, _ := word.Alu(op, wide, v, w); !has(r, n) {
							t.Fatalf("Alu(%#x, %v, %x, %x): %x hasn't %#x, of %#x and %#x", op, wide, a, b, r, n, v, w)
						}
					}
				}
			}
		}
	})
}

// P5.6: two numbers for which a comparison holds are left by it, taken, and others by it, not taken.
func TestBranchIsSound(t *testing.T) {
	pairs(func(a, b api.Scalar, x, y []uint64) {
		for _, op := range comparisons {
			for _, wide := range []bool{false, true} {
				var left [2][2]api.Scalar
				var may [2]bool
				for i := range 2 {
					left[i][0], left[i][1], may[i] = scalar.Branch(op, wide, a, b, i == 1)
				}
				for _, v := range x {
					for _, w := range y {
						i := 0
						if holds, _ := word.Jump(op, wide, v, w); holds {
							i = 1
						}
						if !may[i] || !has(left[i][0], v) || !has(left[i][1], w) {
							t.Fatalf("Branch(%#x, %v, %x, %x, %d): %x, %v haven't %#x and %#x", op, wide, a, b, i, left[i], may[i], v, w)
						}
					}
				}
			}
		}
	})
}

// P5.6, of Low: no lower half is missed.
func TestLowIsSound(t *testing.T) {
	pairs(func(a, b api.Scalar, x, y []uint64) {
		r := scalar.Low(a)
		for _, v := range x {
			if !has(r, v%(1<<32)) {
				t.Fatalf("Low(%x): %x hasn't that of %#x", a, r, v)
			}
		}
	})
}

// P5.6, of scalars of 64 bits: numbers at the edges.
func TestAssortedAreSound(t *testing.T) {
	list := assorted()
	for _, a := range list {
		for _, b := range list {
			for _, v := range contained(a) {
				for _, w := range contained(b) {
					sound(t, a, b, v, w)
				}
			}
		}
	}
}

// contained are some edges that a scalar contains, the first ones and the last.
func contained(a api.Scalar) []uint64 {
	var out []uint64
	for _, v := range edges {
		if has(a, v) {
			out = append(out, v)
		}
	}
	if len(out) > 4 {
		out = append(out[:2:2], out[len(out)-2:]...)
	}
	return out
}

func sound(t *testing.T, a, b api.Scalar, v, w uint64) {
	t.Helper()
	for _, wide := range []bool{false, true} {
		for _, op := range operations {
			if n, _ := word.Alu(op, wide, v, w); !has(scalar.Alu(op, wide, a, b), n) {
				t.Fatalf("Alu(%#x, %v, %x, %x) hasn't %#x, of %#x and %#x", op, wide, a, b, n, v, w)
			}
		}
		for _, op := range comparisons {
			holds, _ := word.Jump(op, wide, v, w)
			x, y, may := scalar.Branch(op, wide, a, b, holds)
			if !may || !has(x, v) || !has(y, w) {
				t.Fatalf("Branch(%#x, %v, %x, %x, %v): %x, %x, %v haven't %#x and %#x", op, wide, a, b, holds, x, y, may, v, w)
			}
		}
	}
}

// R1: scalars and numbers that the promises do not concern end without a panic.
func TestWrongScalars(t *testing.T) {
	wrong := []api.Scalar{{}, sc(anyBits, sp(9, 4), sg(7, -7)), sc(tn(most, most), sp(most, 0), sg(math.MaxInt64, math.MinInt64)), sc(tn(5, 4), sp(0, most), sg(1, 0))}
	for _, a := range append(wrong, all) {
		for _, b := range append(wrong, one(3)) {
			scalar.Norm(a)
			scalar.Low(a)
			scalar.In(a, 4)
			scalar.Within(a, b)
			for op := -300; op <= 300; op++ {
				for i := range 4 {
					scalar.Alu(op, i%2 == 0, a, b)
					scalar.Branch(op, i%2 == 0, a, b, i/2 == 0)
				}
			}
		}
	}
}
