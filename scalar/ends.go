package scalar

import "crossbar/api"

// number is what spans are of.
type number interface{ uint64 | int64 }

// ends are the least number and the greatest one of a span of either kind.
type ends[N number] [2]N

// apart is the numbers of one span that differ from some number of another one, and whether there are any; only an end can go.
func apart[N number](a, b ends[N]) (ends[N], bool) {
	if b[0] != b[1] {
		return a, true
	}
	// An end that went beyond the other one could wrap round.
	if a == b {
		return ends[N]{}, false
	}
	if a[0] == b[0] {
		a[0]++
	}
	if a[1] == b[0] {
		a[1]--
	}
	return a, true
}

// bothApart is the numbers of each of two spans that differ from some number of the other one, and whether there are any.
func bothApart[N number](a, b ends[N]) (ends[N], ends[N], bool) {
	a, ok := apart(a, b)
	if !ok {
		return ends[N]{}, ends[N]{}, false
	}
	b, ok = apart(b, a)
	return a, b, ok
}

// ordered is the numbers of a span that are less than some number of another one, by a gap or more, those that are greater than one of it, and whether there are any.
func ordered[N number](a, b ends[N], gap N) (ends[N], ends[N], bool) {
	least, most := a[0], b[1]
	if least > most || least == most && gap > 0 {
		return ends[N]{}, ends[N]{}, false
	}
	a[1] = min(a[1], most-gap)
	b[0] = max(b[0], least+gap)
	return a, b, true
}

// unsigned is the ends of a span.
func unsigned(a api.Span) ends[uint64] { return ends[uint64]{a.Lo, a.Hi} }

// signed is the ends of a signed span.
func signed(a api.Signed) ends[int64] { return ends[int64]{a.Lo, a.Hi} }

// toUnsigned is the span with these ends.
func toUnsigned(e ends[uint64]) api.Span { return api.Span{Lo: e[0], Hi: e[1]} }

// toSigned is the signed span with these ends.
func toSigned(e ends[int64]) api.Signed { return api.Signed{Lo: e[0], Hi: e[1]} }
