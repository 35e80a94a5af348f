package scalar

import (
	"crossbar/api"
	"crossbar/span"
	"crossbar/tnum"
	"crossbar/word"
)

// Alu is what an operation makes.
func Alu(op int, wide bool, a, b api.Scalar) api.Scalar {
	if v, ok := only(op, wide, a, b); ok {
		return Of(v)
	}
	if wide {
		return settled(result(op, 64, a, b))
	}
	return narrow(op, Low(a), Low(b))
}

// narrow is what an operation of 32 bits makes of lower halves.
func narrow(op int, a, b api.Scalar) api.Scalar {
	// What was no single number may be one without its upper half.
	if v, ok := only(op, false, a, b); ok {
		return Of(v)
	}
	if op == word.Arsh {
		if a.U.Hi >= 1<<31 {
			return Low(All())
		}
		// The highest of the 32 bits is 0, and so is what enters.
		op = word.Rsh
	}
	return Low(settled(result(op, 32, a, b)))
}

// only is the only result of an operation, and whether all numbers that it uses are single.
func only(op int, wide bool, a, b api.Scalar) (uint64, bool) {
	var known bool
	switch op {
	case word.Mov:
		known = single(b)
	case word.Neg:
		known = single(a)
	default:
		known = single(a, b)
	}
	if !known {
		return 0, false
	}
	return word.Alu(op, wide, a.T.Value, b.T.Value)
}

// result is what an operation makes, not settled; counts of shifts are modulo a width.
func result(op int, width uint64, a, b api.Scalar) api.Scalar {
	switch op {
	case word.Add:
		return api.Scalar{T: tnum.Add(a.T, b.T), U: span.Add(a.U, b.U), S: span.Sadd(a.S, b.S)}
	case word.Sub:
		return difference(a, b)
	case word.Neg:
		return difference(Of(0), a)
	case word.Mul:
		return unordered(tnum.Mul(a.T, b.T), span.Mul(a.U, b.U))
	case word.And:
		return unordered(tnum.And(a.T, b.T), span.And(a.U, b.U))
	case word.Or:
		return unordered(tnum.Or(a.T, b.T), span.Or(a.U, b.U))
	case word.Xor:
		return unordered(tnum.Xor(a.T, b.T), span.Xor(a.U, b.U))
	case word.Div:
		return unordered(tnum.All(), span.Div(a.U, b.U))
	case word.Mod:
		return unordered(tnum.All(), span.Mod(a.U, b.U))
	case word.Mov:
		return b
	case word.Lsh, word.Rsh, word.Arsh:
		return shift(op, width, a, b)
	}
	return All()
}

// difference is what Sub makes.
func difference(a, b api.Scalar) api.Scalar {
	return api.Scalar{T: tnum.Sub(a.T, b.T), U: span.Sub(a.U, b.U), S: span.Ssub(a.S, b.S)}
}

// shift is what a shift makes, by a count modulo a width.
func shift(op int, width uint64, a, b api.Scalar) api.Scalar {
	if !single(b) {
		if op == word.Rsh {
			return unordered(tnum.All(), api.Span{Lo: 0, Hi: a.U.Hi})
		}
		return All()
	}
	n := int(b.T.Value % width)
	switch op {
	case word.Lsh:
		return unordered(tnum.Lsh(a.T, n), span.Lsh(a.U, n))
	case word.Rsh:
		return unordered(tnum.Rsh(a.T, n), span.Rsh(a.U, n))
	}
	return api.Scalar{T: tnum.Arsh(a.T, n), U: span.All(), S: span.Sarsh(a.S, n)}
}
