package scalar_test

import (
	"math"
	"testing"

	"crossbar/api"
	"crossbar/scalar"
	"crossbar/word"
)

var comparisons = []int{word.Jeq, word.Jgt, word.Jge, word.Jset, word.Jne, word.Jsgt, word.Jsge, word.Jlt, word.Jle, word.Jslt, word.Jsle}

// noComparisons are opcodes' bits that are no comparison, those of Ja, a call and an exit, and numbers below 0 and beyond among them.
var noComparisons = []int{0, 0x80, 0x90, 0xE0, 0xF0, 1, 0x1F, 0x11, 0xD1, 0x100, 0x110, -1, -0x10, math.MaxInt, math.MinInt, 1<<32 + word.Jeq}

type branchCase struct {
	name         string
	op           int
	a, b         api.Scalar
	taken        bool
	first, other api.Scalar
	may          bool
}

func holdBranch(t *testing.T, wide bool, list []branchCase) {
	t.Helper()
	for _, x := range list {
		a, b, may := scalar.Branch(x.op, wide, x.a, x.b, x.taken)
		if a != x.first || b != x.other || may != x.may {
			t.Errorf("%s: Branch(%#x, %v, %x, %x, %v): %x, %x, %v, not %x, %x, %v", x.name, x.op, wide, x.a, x.b, x.taken, a, b, may, x.first, x.other, x.may)
		}
	}
}

// may and not are cases, of which an outcome is possible, and is not.
func may(name string, op int, a, b api.Scalar, taken bool, first, other api.Scalar) branchCase {
	return branchCase{name, op, a, b, taken, first, other, true}
}

func not(name string, op int, a, b api.Scalar, taken bool) branchCase {
	return branchCase{name, op, a, b, taken, all, all, false}
}

// P5.5, equal numbers and others; the chapter's examples among them.
func TestBranchEqual(t *testing.T) {
	holdBranch(t, true, []branchCase{
		may("jeq of one", word.Jeq, from(0, 9), one(5), true, one(5), one(5)),
		may("jeq of a alone one", word.Jeq, one(5), all, true, one(5), one(5)),
		may("jeq of the highest", word.Jeq, all, one(most), true, one(most), one(most)),
		may("jeq of spans", word.Jeq, from(3, 9), from(0, 5), true, from(3, 5), from(3, 5)),
		may("jeq of bits and a span", word.Jeq, bits(0, 10), from(3, 9), true, sc(tn(0, 10), sp(3, 9), sg(3, 9)), sc(tn(0, 10), sp(3, 9), sg(3, 9))),
		may("jeq of signed ones", word.Jeq, signed(-9, 3), signed(-2, 9), true, signed(-2, 3), signed(-2, 3)),
		may("jeq, each part of both", word.Jeq, sc(tn(0, 7), sp(1, 9), anySign), sc(tn(1, most-1), anySpan, sg(-5, 4)), true, sc(tn(1, 6), sp(1, 4), sg(1, 4)), sc(tn(1, 6), sp(1, 4), sg(1, 4))),
		not("jeq, U apart", word.Jeq, from(0, 9), from(10, 11), true),
		not("jeq, T apart", word.Jeq, bits(0, 6), bits(1, 6), true),
		not("jeq, S apart", word.Jeq, signed(-9, -1), signed(0, 9), true),
		not("jeq, apart when settled", word.Jeq, sc(tn(4, 3), anySpan, anySign), sc(anyBits, sp(8, 9), anySign), true),
		not("jne not taken, apart", word.Jne, from(0, 9), one(10), false),
		may("jne not taken", word.Jne, all, one(top), false, one(top), one(top)),
		may("the chapter's jne", word.Jne, from(0, 1), one(0), true, one(1), one(0)),
		may("jeq not taken", word.Jeq, from(0, 9), one(0), false, from(1, 9), one(0)),
		may("jne of the Hi", word.Jne, from(0, 9), one(9), true, from(0, 8), one(9)),
		may("jne of neither", word.Jne, from(0, 9), one(5), true, from(0, 9), one(5)),
		may("jne of a alone one", word.Jne, one(3), from(3, 9), true, one(3), from(4, 9)),
		may("jne of a alone one, the Hi", word.Jne, one(9), from(3, 9), true, one(9), from(3, 8)),
		may("jne of none alone", word.Jne, from(0, 9), from(0, 9), true, from(0, 9), from(0, 9)),
		may("jne of 0", word.Jne, all, one(0), true, from(1, most), one(0)),
		may("jne of the highest", word.Jne, all, one(most), true, from(0, most-1), one(most)),
		may("jne of 2^31", word.Jne, from(1<<31, 1<<32), one(1<<31), true, from(1<<31+1, 1<<32), one(1<<31)),
		may("jne of 2^32", word.Jne, from(1<<31, 1<<32), one(1<<32), true, from(1<<31, 1<<32-1), one(1<<32)),
		may("jne of 2^63, both ends of S", word.Jne, all, one(top), true, sc(anyBits, anySpan, sg(math.MinInt64+1, math.MaxInt64)), one(top)),
		may("jne of 2^63 - 1", word.Jne, all, one(top-1), true, sc(anyBits, anySpan, sg(math.MinInt64, math.MaxInt64-1)), one(top-1)),
		may("jne of -1, signed", word.Jne, signed(-1, 5), one(most), true, from(0, 5), one(most)),
		may("jne of signed 5", word.Jne, signed(-1, 5), one(5), true, signed(-1, 4), one(5)),
	})
}

// P5.5, Jne of two spans of one number each, which T does not tell: at both ends of all numbers an end must not wrap round.
func TestBranchNotEqualSpans(t *testing.T) {
	for _, v := range edges {
		only := sc(anyBits, sp(v, v), anySign)
		signedOnly := sc(anyBits, anySpan, sg(int64(v), int64(v)))
		holdBranch(t, true, []branchCase{
			not("jne of the same", word.Jne, only, only, true),
			not("jne of the same, a known", word.Jne, one(v), only, true),
			not("jne of the same, b known", word.Jne, only, one(v), true),
			not("jeq not taken, of the same", word.Jeq, only, only, false),
			not("jne of the same, signed", word.Jne, signedOnly, signedOnly, true),
			not("jne of the same, signed, b known", word.Jne, signedOnly, one(v), true),
			may("jne of others", word.Jne, only, sc(anyBits, sp(^v, ^v), anySign), true, one(v), one(^v)),
		})
		// Where the number is an end of all numbers, that end goes, and b has none left.
		if v == 0 || v == top-1 || v == top || v == most {
			holdBranch(t, true, []branchCase{not("jne, U of one, and S of the other", word.Jne, only, signedOnly, true)})
		} else {
			holdBranch(t, true, []branchCase{may("jne, U of one, and S of the other", word.Jne, only, signedOnly, true, one(v), one(v))})
		}
	}
	holdBranch(t, true, []branchCase{
		may("what b leaves of a is held against b", word.Jne, from(4, 5), sc(anyBits, sp(4, 4), anySign), true, one(5), one(4)),
		may("U of a one, S of b", word.Jne, sc(anyBits, sp(4, 4), anySign), sc(anyBits, sp(4, 9), anySign), true, one(4), from(5, 9)),
		not("nothing is left where both are settled", word.Jne, sc(tn(4, 3), sp(3, 4), anySign), one(4), true),
	})
}

// P5.5, unsigned orders, taken and not, at the edges.
func TestBranchLess(t *testing.T) {
	holdBranch(t, true, []branchCase{
		may("the chapter's jlt", word.Jlt, all, one(16), true, sc(tn(0, 15), sp(0, 15), sg(0, 15)), one(16)),
		may("jlt not taken", word.Jlt, all, one(16), false, from(16, most), one(16)),
		may("jge", word.Jge, all, one(16), true, from(16, most), one(16)),
		may("jge not taken", word.Jge, all, one(16), false, from(0, 15), one(16)),
		may("jle", word.Jle, all, one(16), true, from(0, 16), one(16)),
		may("jle not taken", word.Jle, all, one(16), false, from(17, most), one(16)),
		may("jgt", word.Jgt, all, one(16), true, from(17, most), one(16)),
		may("jgt not taken", word.Jgt, all, one(16), false, from(0, 16), one(16)),
		may("jlt of a alone one", word.Jlt, one(16), all, true, one(16), from(17, most)),
		may("jgt of a alone one", word.Jgt, one(16), all, true, one(16), from(0, 15)),
		may("jlt of spans", word.Jlt, from(3, 9), from(1, 7), true, from(3, 6), from(4, 7)),
		may("jle of spans", word.Jle, from(3, 9), from(1, 7), true, from(3, 7), from(3, 7)),
		may("jgt of spans", word.Jgt, from(3, 9), from(1, 7), true, from(3, 9), from(1, 7)),
		may("jge of spans", word.Jge, from(1, 7), from(3, 9), true, from(3, 7), from(3, 7)),
		may("jlt of what is less anyway", word.Jlt, from(1, 2), from(5, 9), true, from(1, 2), from(5, 9)),
		not("the chapter's jgt", word.Jgt, from(0, 3), one(5), true),
		not("jlt of equal ones", word.Jlt, from(5, 9), one(5), true),
		may("jle of equal ones", word.Jle, from(5, 9), one(5), true, one(5), one(5)),
		not("jle of what is greater", word.Jle, from(6, 9), one(5), true),
		not("jge not taken of what is not less", word.Jge, from(5, 9), one(5), false),
		not("jlt of 0", word.Jlt, all, one(0), true),
		not("jlt of the highest", word.Jlt, one(most), all, true),
		not("jgt of 0", word.Jgt, one(0), all, true),
		not("jgt of the highest", word.Jgt, all, one(most), true),
		may("jle of 0", word.Jle, all, one(0), true, one(0), one(0)),
		may("jge of the highest", word.Jge, all, one(most), true, one(most), one(most)),
		may("jlt of 1", word.Jlt, all, one(1), true, one(0), one(1)),
		may("jlt of all", word.Jlt, all, all, true, from(0, most-1), from(1, most)),
		may("jle of all", word.Jle, all, all, true, all, all),
		may("jlt of 2^31", word.Jlt, all, one(1<<31), true, from(0, 1<<31-1), one(1<<31)),
		may("jge of 2^32", word.Jge, all, one(1<<32), true, from(1<<32, most), one(1<<32)),
		may("jlt of 2^63", word.Jlt, all, one(top), true, signed(0, math.MaxInt64), one(top)),
		may("jge of 2^63", word.Jge, all, one(top), true, signed(math.MinInt64, -1), one(top)),
		may("S is not held", word.Jlt, signed(-5, 5), one(3), true, from(0, 2), one(3)),
		not("S leaves none", word.Jlt, signed(3, 5), one(3), true),
		not("T leaves none", word.Jlt, bits(4, 3), one(4), true),
		not("T leaves none when it is settled", word.Jgt, sc(tn(4, 3), anySpan, anySign), one(7), true),
	})
}

// P5.5, signed orders, taken and not, at the edges.
func TestBranchSignedLess(t *testing.T) {
	const least, last = math.MinInt64, math.MaxInt64
	minus := func(v int64) api.Scalar { return one(uint64(v)) }
	holdBranch(t, true, []branchCase{
		may("jslt of 0", word.Jslt, all, one(0), true, signed(least, -1), one(0)),
		may("jslt of 0 not taken", word.Jslt, all, one(0), false, signed(0, last), one(0)),
		may("jsge of 0", word.Jsge, all, one(0), true, signed(0, last), one(0)),
		may("jsge of 0 not taken", word.Jsge, all, one(0), false, signed(least, -1), one(0)),
		may("jsle of 0", word.Jsle, all, one(0), true, signed(least, 0), one(0)),
		may("jsle of 0 not taken", word.Jsle, all, one(0), false, signed(1, last), one(0)),
		may("jsgt of 0", word.Jsgt, all, one(0), true, signed(1, last), one(0)),
		may("jsgt of 0 not taken", word.Jsgt, all, one(0), false, signed(least, 0), one(0)),
		may("jsgt of -1", word.Jsgt, all, minus(-1), true, signed(0, last), minus(-1)),
		may("jsle of -1", word.Jsle, all, minus(-1), true, signed(least, -1), minus(-1)),
		may("jslt of a alone one", word.Jslt, minus(-3), signed(-9, 9), true, minus(-3), signed(-2, 9)),
		may("jslt of spans", word.Jslt, signed(-3, 9), signed(-5, 7), true, signed(-3, 6), signed(-2, 7)),
		may("jsle of spans", word.Jsle, signed(-3, 9), signed(-5, 7), true, signed(-3, 7), signed(-3, 7)),
		may("jsge of spans", word.Jsge, signed(-5, 7), signed(-3, 9), true, signed(-3, 7), signed(-3, 7)),
		not("jslt of the least", word.Jslt, all, minus(least), true),
		not("jslt of the greatest", word.Jslt, minus(last), all, true),
		not("jsgt of the least", word.Jsgt, minus(least), all, true),
		not("jsgt of the greatest", word.Jsgt, all, minus(last), true),
		may("jsle of the least", word.Jsle, all, minus(least), true, minus(least), minus(least)),
		may("jsge of the greatest", word.Jsge, all, minus(last), true, minus(last), minus(last)),
		may("jslt of all", word.Jslt, all, all, true, sc(anyBits, anySpan, sg(least, last-1)), sc(anyBits, anySpan, sg(least+1, last))),
		not("jslt of equal ones", word.Jslt, signed(5, 9), one(5), true),
		not("jsle of what is greater", word.Jsle, signed(6, 9), one(5), true),
		not("jslt, below 0", word.Jslt, signed(-5, 9), minus(-5), true),
		may("jsgt of 0 to 100", word.Jsgt, from(0, 100), one(50), true, from(51, 100), one(50)),
		may("U is not held", word.Jsgt, from(top-1, top), one(0), true, one(top-1), one(0)),
	})
}

// P5.5, common bits.
func TestBranchSet(t *testing.T) {
	holdBranch(t, true, []branchCase{
		may("taken", word.Jset, from(0, 7), one(4), true, from(0, 7), one(4)),
		not("taken, no bit in common", word.Jset, from(0, 3), one(4), true),
		not("taken, of 0", word.Jset, all, one(0), true),
		may("taken, of none alone", word.Jset, bits(8, 3), bits(0, 6), true, bits(8, 3), bits(0, 6)),
		not("taken, of none alone, none in common", word.Jset, bits(8, 3), bits(0, 4), true),
		may("taken, settled", word.Jset, sc(anyBits, sp(4, 7), anySign), one(4), true, from(4, 7), one(4)),
		not("taken, T and U apart", word.Jset, sc(tn(4, 3), sp(8, 9), anySign), one(4), true),
		not("taken, T and U of the other one apart", word.Jset, one(4), sc(tn(4, 3), sp(8, 9), anySign), true),
		may("not taken", word.Jset, from(0, 7), one(4), false, from(0, 3), one(4)),
		may("not taken, of all", word.Jset, all, one(6), false, bits(0, most-6), one(6)),
		may("not taken, of 2^63", word.Jset, all, one(top), false, from(0, top-1), one(top)),
		may("not taken, of all bits", word.Jset, all, one(most), false, one(0), one(most)),
		may("not taken, of 0", word.Jset, from(0, 7), one(0), false, from(0, 7), one(0)),
		not("not taken, of a bit that is 1", word.Jset, from(4, 7), one(4), false),
		may("not taken, of a alone one", word.Jset, one(4), from(0, 7), false, one(4), from(0, 7)),
		may("not taken, of none alone", word.Jset, from(4, 7), bits(4, 1), false, from(4, 7), bits(4, 1)),
		not("not taken, U leaves none", word.Jset, from(6, 9), one(14), false),
	})
}

// P5.5: comparisons that are not wide tell nothing, but of numbers below 2^32, or 2^31 if they are signed.
func TestBranchNarrow(t *testing.T) {
	below31, below32, above := from(0, 1<<31-1), from(0, 1<<32-1), from(0, 1<<32)
	none := sc(tn(4, 3), sp(8, 1<<40), anySign)
	for _, op := range comparisons {
		for _, taken := range []bool{false, true} {
			holdBranch(t, false, []branchCase{
				may("a is above", op, above, one(5), taken, above, one(5)),
				may("b is above", op, one(5), above, taken, one(5), above),
				may("both are", op, all, all, taken, all, all),
				may("none at all", op, none, one(5), taken, none, one(5)),
			})
		}
	}
	for _, op := range []int{word.Jsgt, word.Jsge, word.Jslt, word.Jsle} {
		for _, taken := range []bool{false, true} {
			holdBranch(t, false, []branchCase{
				may("a is from 2^31", op, from(0, 1<<31), one(5), taken, from(0, 1<<31), one(5)),
				may("b is from 2^31", op, one(5), from(0, 1<<31), taken, one(5), from(0, 1<<31)),
				may("both are below 2^32", op, below32, below32, taken, below32, below32),
			})
		}
	}
	holdBranch(t, false, []branchCase{
		may("jslt below 2^31", word.Jslt, below31, one(5), true, from(0, 4), one(5)),
		may("jsle below 2^31 not taken", word.Jsle, below31, one(1<<31-2), false, one(1<<31-1), one(1<<31-2)),
		may("jsgt below 2^31", word.Jsgt, from(0, 9), below31, true, from(1, 9), from(0, 8)),
		may("jsge below 2^31", word.Jsge, from(0, 9), below31, true, from(0, 9), from(0, 9)),
		may("jeq below 2^32", word.Jeq, below32, one(1<<31), true, one(1<<31), one(1<<31)),
		may("jne below 2^32", word.Jne, below32, one(1<<32-1), true, from(0, 1<<32-2), one(1<<32-1)),
		may("jgt below 2^32", word.Jgt, below32, one(1<<31), true, from(1<<31+1, 1<<32-1), one(1<<31)),
		may("jge below 2^32", word.Jge, one(1<<31), below32, true, one(1<<31), from(0, 1<<31)),
		may("jlt below 2^32", word.Jlt, below32, below32, true, from(0, 1<<32-2), from(1, 1<<32-1)),
		may("jle below 2^32", word.Jle, from(0, 1<<31), one(5), true, from(0, 5), one(5)),
		may("jset below 2^32", word.Jset, below32, one(1<<31), false, below31, one(1<<31)),
		not("jset below 2^32, taken", word.Jset, below31, one(1<<31), true),
		not("jgt below 2^32, of the highest", word.Jgt, below32, one(1<<32-1), true),
	})
}

// P5.5: of two single numbers, both as they are, and whether this outcome occurs.
func TestBranchOfSingle(t *testing.T) {
	for _, op := range comparisons {
		for _, wide := range []bool{false, true} {
			for _, v := range edges {
				for _, w := range edges {
					holds, _ := word.Jump(op, wide, v, w)
					holdBranch(t, wide, []branchCase{
						may("it occurs", op, one(v), one(w), holds, one(v), one(w)),
						not("it does not", op, one(v), one(w), !holds),
					})
				}
			}
		}
	}
	none := sc(tn(4, 0), sp(5, 9), anySign)
	for _, wide := range []bool{false, true} {
		holdBranch(t, wide, []branchCase{
			may("U tells otherwise", word.Jeq, none, one(4), true, none, one(4)),
			not("U tells otherwise, and so does T", word.Jgt, none, one(4), true),
			may("both as they are", word.Jle, sc(tn(4, 0), anySpan, anySign), none, true, sc(tn(4, 0), anySpan, anySign), none),
		})
	}
}

// P5.5, scalars that settle to none: nothing is possible, whatever is compared.
func TestBranchOfNone(t *testing.T) {
	for _, x := range nothing {
		if x.a.T.Mask == 0 {
			continue
		}
		for _, op := range comparisons {
			for _, taken := range []bool{false, true} {
				holdBranch(t, true, []branchCase{not(x.name, op, x.a, from(1, 9), taken), not(x.name, op, from(1, 9), x.a, taken), not(x.name, op, x.a, one(5), taken), not(x.name, op, one(5), x.a, taken)})
			}
		}
	}
}

// P5.5, what is no comparison.
func TestBranchOfNoComparison(t *testing.T) {
	none := sc(tn(4, 3), sp(8, 9), anySign)
	for _, op := range noComparisons {
		for _, taken := range []bool{false, true} {
			for _, wide := range []bool{false, true} {
				holdBranch(t, wide, []branchCase{
					may("single numbers", op, one(1), one(2), taken, one(1), one(2)),
					may("others", op, from(0, 9), all, taken, from(0, 9), all),
					may("none", op, none, one(1), taken, none, one(1)),
				})
			}
		}
	}
}
