package insn

import (
	"math"

	"crossbar/api"
	"crossbar/word"
)

// source is the bit of an opcode that makes its second operand a register.
const source = 0x08

// stackEnd is the last register: the only one that is never written.
const stackEnd = 10

// asMap is the Src by which the Imm of a wide instruction is a map.
const asMap = 1

// register is what a row asks of Dst or of Src.
type register uint8

const (
	noRegister register = iota // the row does not name it
	anyRegister
	written
	writtenIfFetches // by what Imm says
	mark             // of a wide instruction: no register, but what Imm is
)

// fits tells whether a register may stand where the row asks for this, beside that Imm.
func (r register) fits(n, imm int) bool {
	last := stackEnd
	switch r {
	case written:
		last = stackEnd - 1
	case writtenIfFetches:
		if _, fetches := Atomic(imm); fetches {
			last = stackEnd - 1
		}
	}
	return n >= 0 && n <= last
}

// number is what a row asks of Imm.
type number uint8

const (
	noNumber number = iota // the row does not name it
	anyNumber
	shift     // by less than the class's bits
	bitsOfEnd // how many of them End turns round
	atomicOne
	wideOne // of 64 bits, or a map
)

// fields are what a row asks of an instruction's fields; Off is named or it is not.
type fields struct {
	dst, src register
	off      bool
	imm      number
}

// registersFit tells whether Dst and Src are registers that may stand there: where the row does not name them, too.
func (f fields) registersFit(x api.Insn) bool {
	return f.dst.fits(x.Dst, x.Imm) && f.src.fits(x.Src, x.Imm)
}

// restIsZero tells whether there is nothing in fields that the row does not name; a mark beyond those that there are counts as such.
func (f fields) restIsZero(x api.Insn) bool {
	switch {
	case f.dst == noRegister && x.Dst != 0:
		return false
	case f.src == noRegister && x.Src != 0, f.src == mark && x.Src > asMap:
		return false
	case !f.off && x.Off != 0:
		return false
	case f.imm == noNumber && x.Imm != 0:
		return false
	}
	return true
}

// numbersFit tells whether Off and Imm are as the row says; where it does not name them they are zero, and that fits.
func (f fields) numbersFit(x api.Insn) bool {
	return signedFits(x.Off, 16) && f.immFits(x)
}

// immFits is numbersFit of Imm alone.
func (f fields) immFits(x api.Insn) bool {
	switch f.imm {
	case shift:
		return x.Imm >= 0 && x.Imm < bitsOf(Class(x.Op))
	case bitsOfEnd:
		return x.Imm == 16 || x.Imm == 32 || x.Imm == 64
	case atomicOne:
		is, _ := Atomic(x.Imm)
		return is
	case wideOne:
		return x.Src != asMap || x.Imm >= 0 && x.Imm <= math.MaxInt32
	}
	return signedFits(x.Imm, 32)
}

// bitsOf is how many bits the numbers have on which a class of operations works.
func bitsOf(class int) int {
	if class == Alu64 {
		return 64
	}
	return 32
}

// signedFits tells whether a number has so many bits in two's complement.
func signedFits(v, bits int) bool {
	half := 1 << (bits - 1)
	return v >= -half && v < half
}

// row is a line of the chapter's table: opcodes, and the fields that all of them have.
type row struct {
	ops []int
	fields
}

// table finds a row by any of its opcodes.
type table map[int]row

// enter lays rows into the table.
func (t table) enter(rows ...row) {
	for _, r := range rows {
		for _, op := range r.ops {
			t[op] = r
		}
	}
}

// opcodes are those made of each of the upper parts and of the same lower one.
func opcodes(lower int, upper ...int) []int {
	out := make([]int, len(upper))
	for i, u := range upper {
		out[i] = u | lower
	}
	return out
}

// rowsOf is the part of the table that a class has: a check needs no more, and a table may not be kept.
func rowsOf(class int) table {
	t := table{}
	switch class {
	case Ld:
		t.enter(row{[]int{WideOp}, fields{dst: written, src: mark, imm: wideOne}})
	case Ldx:
		t.enter(row{sizes(Mem | Ldx), fields{dst: written, src: anyRegister, off: true}})
	case St:
		t.enter(row{sizes(Mem | St), fields{dst: anyRegister, off: true, imm: anyNumber}})
	case Stx:
		t.enter(
			row{sizes(Mem | Stx), fields{dst: anyRegister, src: anyRegister, off: true}},
			row{opcodes(AtomicMode|Stx, four, eight), fields{dst: anyRegister, src: writtenIfFetches, off: true, imm: atomicOne}},
		)
	case Alu:
		t.enterOperations(Alu)
		t.enter(row{opcodes(End|Alu, 0, source), fields{dst: written, imm: bitsOfEnd}})
	case Alu64:
		t.enterOperations(Alu64)
	case Jmp:
		t.enterComparisons(Jmp)
		t.enter(
			row{[]int{word.Ja | Jmp}, fields{off: true}},
			row{[]int{Call | Jmp}, fields{imm: anyNumber}},
			row{[]int{Exit | Jmp}, fields{}},
		)
	case Jmp32:
		t.enterComparisons(Jmp32)
	}
	return t
}

// sizes are a mode's and a class's opcodes of every size.
func sizes(lower int) []int { return opcodes(lower, four, two, one, eight) }

// enterOperations lays the rows of a class's operations.
func (t table) enterOperations(class int) {
	plain := []int{word.Add, word.Sub, word.Mul, word.Div, word.Or, word.And, word.Mod, word.Xor, word.Mov}
	shifts := []int{word.Lsh, word.Rsh, word.Arsh}
	withRegister := fields{dst: written, src: anyRegister}
	t.enter(
		row{opcodes(class, plain...), fields{dst: written, imm: anyNumber}},
		row{opcodes(class, shifts...), fields{dst: written, imm: shift}},
		row{opcodes(class|source, plain...), withRegister},
		row{opcodes(class|source, shifts...), withRegister},
		row{[]int{word.Neg | class}, fields{dst: written}},
	)
}

// enterComparisons lays the rows of a class's comparisons.
func (t table) enterComparisons(class int) {
	all := []int{word.Jeq, word.Jgt, word.Jge, word.Jset, word.Jne, word.Jsgt, word.Jsge, word.Jlt, word.Jle, word.Jslt, word.Jsle}
	t.enter(
		row{opcodes(class, all...), fields{dst: anyRegister, off: true, imm: anyNumber}},
		row{opcodes(class|source, all...), fields{dst: anyRegister, src: anyRegister, off: true}},
	)
}
