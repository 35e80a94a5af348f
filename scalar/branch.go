package scalar

import (
	"crossbar/api"
	"crossbar/span"
	"crossbar/tnum"
	"crossbar/word"
)

// Branch is what is known behind a comparison.
func Branch(op int, wide bool, a, b api.Scalar, taken bool) (api.Scalar, api.Scalar, bool) {
	holds, ok := word.Jump(op, wide, a.T.Value, b.T.Value)
	switch {
	case !ok:
		return a, b, true
	case single(a, b):
		if holds != taken {
			return none()
		}
		return a, b, true
	case !wide && !short(op, a.U.Hi, b.U.Hi):
		return a, b, true
	}
	a, b, ok = bounded(op, a, b, taken)
	if !ok {
		return none()
	}
	a, first := Norm(a)
	b, second := Norm(b)
	if !first || !second {
		return none()
	}
	return a, b, true
}

// none is what is known where an outcome is not possible.
func none() (api.Scalar, api.Scalar, bool) { return All(), All(), false }

// short tells whether a comparison of the lower halves of numbers up to these is one of the whole numbers.
func short(op int, a, b uint64) bool {
	switch op {
	case word.Jsgt, word.Jsge, word.Jslt, word.Jsle:
		return max(a, b) < 1<<31
	}
	return max(a, b) < 1<<32
}

// bounded is what a comparison of whole numbers, taken or not, leaves of them, not settled, and whether it leaves any.
func bounded(op int, a, b api.Scalar, taken bool) (api.Scalar, api.Scalar, bool) {
	if op == word.Jset {
		return common(a, b, taken)
	}
	if !taken {
		op = other(op)
	}
	switch op {
	case word.Jeq:
		return same(a, b)
	case word.Jne:
		return differ(a, b)
	case word.Jgt, word.Jge, word.Jsgt, word.Jsge:
		y, x, ok := ranked(turned(op), b, a)
		return x, y, ok
	}
	return ranked(op, a, b)
}

// ranked is two numbers of which the first is less, or not greater.
func ranked(op int, a, b api.Scalar) (api.Scalar, api.Scalar, bool) {
	switch op {
	case word.Jlt:
		return less(a, b, 1)
	case word.Jle:
		return less(a, b, 0)
	case word.Jslt:
		return signedLess(a, b, 1)
	}
	return signedLess(a, b, 0) // Jsle
}

// other is the comparison that holds where this one does not.
func other(op int) int {
	return partner(op, [][2]int{
		{word.Jeq, word.Jne}, {word.Jgt, word.Jle}, {word.Jge, word.Jlt}, {word.Jsgt, word.Jsle}, {word.Jsge, word.Jslt},
	})
}

// turned is the comparison that holds of b and a where this one holds of a and b.
func turned(op int) int {
	return partner(op, [][2]int{
		{word.Jgt, word.Jlt}, {word.Jge, word.Jle}, {word.Jsgt, word.Jslt}, {word.Jsge, word.Jsle},
	})
}

// partner is what stands beside a number in a list of pairs; the number itself if it stands nowhere.
func partner(n int, pairs [][2]int) int {
	for _, p := range pairs {
		switch n {
		case p[0]:
			return p[1]
		case p[1]:
			return p[0]
		}
	}
	return n
}

// common is two numbers that have a common bit, or have none.
func common(a, b api.Scalar, taken bool) (api.Scalar, api.Scalar, bool) {
	if taken {
		return a, b, tnum.And(a.T, b.T) != tnum.Of(0)
	}
	ok := true
	if single(b) {
		a.T, ok = tnum.Meet(a.T, api.Tnum{Mask: ^b.T.Value})
	}
	return a, b, ok
}

// same is two numbers that are equal.
func same(a, b api.Scalar) (api.Scalar, api.Scalar, bool) {
	t, first := tnum.Meet(a.T, b.T)
	u, second := span.Meet(a.U, b.U)
	s, third := span.Smeet(a.S, b.S)
	both := api.Scalar{T: t, U: u, S: s}
	return both, both, first && second && third
}

// differ is two numbers that are not equal.
func differ(a, b api.Scalar) (api.Scalar, api.Scalar, bool) {
	x, y, first := bothApart(unsigned(a.U), unsigned(b.U))
	v, w, second := bothApart(signed(a.S), signed(b.S))
	a.U, b.U = toUnsigned(x), toUnsigned(y)
	a.S, b.S = toSigned(v), toSigned(w)
	return a, b, first && second
}

// less is two numbers of which the first is less than the second by a gap or more.
func less(a, b api.Scalar, gap uint64) (api.Scalar, api.Scalar, bool) {
	x, y, ok := ordered(unsigned(a.U), unsigned(b.U), gap)
	a.U, b.U = toUnsigned(x), toUnsigned(y)
	return a, b, ok
}

// signedLess is the same of signed numbers.
func signedLess(a, b api.Scalar, gap int64) (api.Scalar, api.Scalar, bool) {
	x, y, ok := ordered(signed(a.S), signed(b.S), gap)
	a.S, b.S = toSigned(x), toSigned(y)
	return a, b, ok
}
