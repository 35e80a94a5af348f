package span

// number is what spans are of.
type number interface{ uint64 | int64 }

// ends are the least number and the greatest one of a span of either kind.
type ends[N number] struct{ lo, hi N }

// only is one number.
func only[N number](v N) ends[N] { return ends[N]{lo: v, hi: v} }

// within tells whether all numbers of one are ones of another.
func within[N number](a, b ends[N]) bool { return b.lo <= a.lo && a.hi <= b.hi }

// join is the least that has the numbers of both.
func join[N number](a, b ends[N]) ends[N] {
	return ends[N]{lo: min(a.lo, b.lo), hi: max(a.hi, b.hi)}
}

// meet is the numbers of both, and whether there are any.
func meet[N number](a, b ends[N]) (ends[N], bool) {
	r := ends[N]{lo: max(a.lo, b.lo), hi: min(a.hi, b.hi)}
	if r.lo > r.hi {
		return ends[N]{}, false
	}
	return r, true
}

// add is the least sum and the greatest one, and whether each of them fits.
func add[N number](a, b ends[N]) (r ends[N], low, high bool) {
	r.lo, low = sum(a.lo, b.lo)
	r.hi, high = sum(a.hi, b.hi)
	return r, low, high
}

// sub is the least difference and the greatest one, and whether each of them fits.
func sub[N number](a, b ends[N]) (r ends[N], low, high bool) {
	r.lo, low = difference(a.lo, b.hi)
	r.hi, high = difference(a.hi, b.lo)
	return r, low, high
}

// sum is of two numbers, and whether it fits.
func sum[N number](a, b N) (N, bool) {
	s := a + b
	// What wraps round goes down by what is not below 0, or up by what is.
	return s, (s >= a) == (b >= 0)
}

// difference is of two numbers, and whether it fits.
func difference[N number](a, b N) (N, bool) {
	d := a - b
	return d, (d <= a) == (b >= 0)
}

// down is the numbers divided by 2 as often as a count says, rounded down.
func down[N number](a ends[N], n int) ends[N] {
	return ends[N]{lo: a.lo >> count(n), hi: a.hi >> count(n)}
}

// count is how far a shift goes: Go's shifts don't wrap at the width, and panic below 0.
func count(n int) uint { return uint(n) % 64 }

// turned is the same bits as numbers of the other kind, and whether they are in order there: whether both ends have the same sign.
func turned[M, N number](a ends[N]) (ends[M], bool) {
	if int64(a.lo^a.hi) < 0 {
		return ends[M]{}, false
	}
	return ends[M]{lo: M(a.lo), hi: M(a.hi)}, true
}
