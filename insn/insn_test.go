package insn_test

import (
	"math"
	"slices"
	"testing"

	"crossbar/api"
	"crossbar/insn"
)

// The opcodes of the chapter's table, row by row, written out.
var (
	plainNumber   = []int{0x04, 0x14, 0x24, 0x34, 0x44, 0x54, 0x94, 0xA4, 0xB4, 0x07, 0x17, 0x27, 0x37, 0x47, 0x57, 0x97, 0xA7, 0xB7}
	narrowShift   = []int{0x64, 0x74, 0xC4}
	wideShift     = []int{0x67, 0x77, 0xC7}
	withRegister  = []int{0x0C, 0x1C, 0x2C, 0x3C, 0x4C, 0x5C, 0x6C, 0x7C, 0x9C, 0xAC, 0xBC, 0xCC, 0x0F, 0x1F, 0x2F, 0x3F, 0x4F, 0x5F, 0x6F, 0x7F, 0x9F, 0xAF, 0xBF, 0xCF}
	negation      = []int{0x84, 0x87}
	end           = []int{0xD4, 0xDC}
	jump          = []int{0x05}
	toNumber      = []int{0x15, 0x25, 0x35, 0x45, 0x55, 0x65, 0x75, 0xA5, 0xB5, 0xC5, 0xD5, 0x16, 0x26, 0x36, 0x46, 0x56, 0x66, 0x76, 0xA6, 0xB6, 0xC6, 0xD6}
	toRegister    = []int{0x1D, 0x2D, 0x3D, 0x4D, 0x5D, 0x6D, 0x7D, 0xAD, 0xBD, 0xCD, 0xDD, 0x1E, 0x2E, 0x3E, 0x4E, 0x5E, 0x6E, 0x7E, 0xAE, 0xBE, 0xCE, 0xDE}
	call          = []int{0x85}
	exit          = []int{0x95}
	wide          = []int{0x18}
	load          = []int{0x61, 0x69, 0x71, 0x79}
	storeNumber   = []int{0x62, 0x6A, 0x72, 0x7A}
	storeRegister = []int{0x63, 0x6B, 0x73, 0x7B}
	atomic        = []int{0xC3, 0xDB}
)

var (
	plainAtomic = []int{0x00, 0x40, 0x50, 0xA0}
	fetching    = []int{0x01, 0x41, 0x51, 0xA1, 0xE1, 0xF1}
)

// line is a row of the table: its opcodes, and the fields that it names.
type line struct {
	name                 string
	ops                  []int
	dst, src, off, imm   bool // named
	dstWritten, srcFetch bool
	fits                 func(x api.Insn) bool // Imm, where it is named
}

// short is an Imm that any of 32 bits may be.
func short(x api.Insn) bool { return x.Imm >= -1<<31 && x.Imm <= 1<<31-1 }

// upTo is an Imm from 0 on.
func upTo(last int) func(api.Insn) bool {
	return func(x api.Insn) bool { return x.Imm >= 0 && x.Imm <= last }
}

var lines = []line{
	{name: "operation with a number", ops: plainNumber, dst: true, dstWritten: true, imm: true, fits: short},
	{name: "shift of 32 bits", ops: narrowShift, dst: true, dstWritten: true, imm: true, fits: upTo(31)},
	{name: "shift of 64 bits", ops: wideShift, dst: true, dstWritten: true, imm: true, fits: upTo(63)},
	{name: "operation with a register", ops: withRegister, dst: true, dstWritten: true, src: true},
	{name: "Neg", ops: negation, dst: true, dstWritten: true},
	{name: "End", ops: end, dst: true, dstWritten: true, imm: true, fits: func(x api.Insn) bool { return slices.Contains([]int{16, 32, 64}, x.Imm) }},
	{name: "Ja", ops: jump, off: true},
	{name: "comparison with a number", ops: toNumber, dst: true, off: true, imm: true, fits: short},
	{name: "comparison with a register", ops: toRegister, dst: true, src: true, off: true},
	{name: "Call", ops: call, imm: true, fits: short},
	{name: "Exit", ops: exit},
	{name: "wide", ops: wide, dst: true, dstWritten: true, src: true, imm: true, fits: func(x api.Insn) bool { return x.Src == 0 || x.Imm >= 0 && x.Imm <= 1<<31-1 }},
	{name: "Ldx", ops: load, dst: true, dstWritten: true, src: true, off: true},
	{name: "St", ops: storeNumber, dst: true, off: true, imm: true, fits: short},
	{name: "Stx", ops: storeRegister, dst: true, src: true, off: true},
	{name: "atomic", ops: atomic, dst: true, src: true, srcFetch: true, off: true, imm: true, fits: func(x api.Insn) bool {
		return slices.Contains(plainAtomic, x.Imm) || slices.Contains(fetching, x.Imm)
	}},
}

// wrong is what Check must tell of an instruction of that row.
func (l line) wrong(x api.Insn) api.Errno {
	isRegister := func(n int) bool { return n >= 0 && n <= 10 }
	switch {
	case !isRegister(x.Dst), !isRegister(x.Src):
		return api.ErrReg
	case l.dstWritten && x.Dst == 10, l.srcFetch && x.Src == 10 && slices.Contains(fetching, x.Imm):
		return api.ErrReg
	case !l.dst && x.Dst != 0, !l.src && x.Src != 0, !l.off && x.Off != 0, !l.imm && x.Imm != 0:
		return api.ErrField
	case x.Op == 0x18 && x.Src > 1:
		return api.ErrField
	case x.Off < -1<<15, x.Off > 1<<15-1, l.imm && !l.fits(x):
		return api.ErrRange
	}
	return api.OK
}

// noOpcodes are those that no row has, from below 0 to above 255, and some far off whose lowest bits a row has.
func noOpcodes() []int {
	has := map[int]bool{}
	for _, l := range lines {
		for _, op := range l.ops {
			has[op] = true
		}
	}
	var out []int
	for op := -600; op <= 1100; op++ {
		if !has[op] {
			out = append(out, op)
		}
	}
	for op := range has {
		out = append(out, op-1<<32, op+1<<32, op+1<<16, op|math.MinInt)
	}
	return append(out, math.MinInt, math.MaxInt)
}

// The edges of each field: few, to be crossed with one another, and far ones, to be tried field by field.
var (
	registers = []int{-1, 0, 1, 9, 10, 11, 16}
	offs      = []int{-1<<15 - 1, -1 << 15, 0, 1, 1<<15 - 1, 1 << 15}
	imms      = []int{
		-1<<31 - 1, -1 << 31, -1, 0, 1, 0x10, 31, 32, 63, 64, 0x41, 0x50, 0xA0, 0xE1, 0xF0, 0xF1, 1<<31 - 1, 1 << 31, 1 << 32,
	}
	farRegisters = []int{math.MinInt, -1 << 32, -16, 2, 3, 4, 5, 6, 7, 8, 12, 15, 26, 255, 256, 1 << 32, 1<<32 + 1, math.MaxInt}
	farOffs      = []int{math.MinInt, -1 << 32, -1<<31 - 1, -1<<16 - 1, -1 << 16, -1, 2, 1<<16 - 1, 1 << 16, 1 << 31, 1<<32 + 1, math.MaxInt}
	farImms      = []int{
		math.MinInt, math.MinInt + 16, -1<<32 - 1, -1 << 32, -1<<32 + 1, -64, -32, -16, 2, 15, 17, 30, 33, 48, 62, 65, 127, 128,
		0x11, 0x20, 0x21, 0x30, 0x40, 0x51, 0x60, 0xA1, 0xB0, 0xE0, 0xE2, 0xF2, 0x100, 0x101, 0x1F1,
		1<<32 - 1, 1<<32 + 16, 1<<32 + 0xF1, 1 << 33, math.MaxInt,
	}
)

// P2.1, the class of any number.
func TestClass(t *testing.T) {
	for _, x := range []struct{ op, want int }{
		{0x18, insn.Ld}, {0x61, insn.Ldx}, {0x72, insn.St}, {0xDB, insn.Stx}, {0x04, insn.Alu}, {0x95, insn.Jmp}, {0x16, insn.Jmp32}, {0x0F, insn.Alu64},
		{0, 0}, {8, 0}, {255, 7}, {256, 0}, {261, 5}, {-1, 7}, {-8, 0}, {-3, 5}, {math.MinInt, 0}, {math.MaxInt, 7}, {1<<32 + 3, 3},
	} {
		if got := insn.Class(x.op); got != x.want {
			t.Errorf("Class(%#x): %d, not %d", x.op, got, x.want)
		}
	}
	for op := -600; op <= 600; op++ {
		if got := insn.Class(op); got != ((op%8)+8)%8 {
			t.Errorf("Class(%d): %d", op, got)
		}
	}
}

// P2.1, what the size bits denote, of any number.
func TestSize(t *testing.T) {
	sizes := []int{4, 2, 1, 8}
	for op := -600; op <= 600; op++ {
		// Bits 08 and 10 count in eights, from 0 to 3.
		if got, want := insn.Size(op), sizes[((op%32)+32)%32/8]; got != want {
			t.Errorf("Size(%#x): %d, not %d", op, got, want)
		}
	}
	for _, l := range [][]int{load, storeNumber, storeRegister} {
		for i, op := range l {
			if got := insn.Size(op); got != sizes[i] {
				t.Errorf("Size(%#x): %d, not %d", op, got, sizes[i])
			}
		}
	}
	for _, x := range []struct{ op, want int }{{0xC3, 4}, {0xDB, 8}, {0x18, 8}, {math.MinInt, 4}, {math.MaxInt, 8}, {1<<32 + 0x69, 2}} {
		if got := insn.Size(x.op); got != x.want {
			t.Errorf("Size(%#x): %d, not %d", x.op, got, x.want)
		}
	}
}

// P2.1, which imms are atomic ones, and which of those fetch.
func TestAtomic(t *testing.T) {
	list := slices.Concat(imms, farImms)
	for imm := -600; imm <= 1100; imm++ {
		list = append(list, imm)
	}
	for _, imm := range list {
		fetches := slices.Contains(fetching, imm)
		want := fetches || slices.Contains(plainAtomic, imm)
		if is, f := insn.Atomic(imm); is != want || f != fetches {
			t.Errorf("Atomic(%#x): %v, %v, not %v, %v", imm, is, f, want, fetches)
		}
	}
}

// P2.2, the chapter's examples and each row's edges.
func TestCheck(t *testing.T) {
	for _, x := range []struct {
		x    api.Insn
		want api.Errno
	}{
		{api.Insn{Op: 0xB7, Dst: 2, Imm: -1}, api.OK},
		{api.Insn{Op: 0x6B, Dst: 10, Src: 3, Off: -8}, api.OK},
		{api.Insn{Op: 0x18, Dst: 1, Src: 1, Imm: 4}, api.OK},
		{api.Insn{Op: 0xDB, Imm: 0xF1}, api.OK},
		{api.Insn{Op: 0x95}, api.OK},
		{api.Insn{Op: 0x07, Dst: 10}, api.ErrReg},
		{api.Insn{Op: 0xA5}, api.OK},
		{api.Insn{Op: 0x95, Imm: 1}, api.ErrField},
		{api.Insn{Op: 0x67, Dst: 1, Imm: 64}, api.ErrRange},

		{api.Insn{Op: 0x07, Dst: 9, Imm: 1<<31 - 1}, api.OK},
		{api.Insn{Op: 0x07, Dst: 9, Imm: 1 << 31}, api.ErrRange},
		{api.Insn{Op: 0x07, Dst: 9, Imm: -1 << 31}, api.OK},
		{api.Insn{Op: 0x07, Dst: 9, Imm: -1<<31 - 1}, api.ErrRange},
		{api.Insn{Op: 0x07, Src: 1}, api.ErrField},
		{api.Insn{Op: 0x07, Off: 1}, api.ErrField},
		{api.Insn{Op: 0x07, Dst: 11}, api.ErrReg},
		{api.Insn{Op: 0x07, Dst: -1}, api.ErrReg},
		{api.Insn{Op: 0x64, Imm: 31}, api.OK},
		{api.Insn{Op: 0x64, Imm: 32}, api.ErrRange},
		{api.Insn{Op: 0x64, Imm: -1}, api.ErrRange},
		{api.Insn{Op: 0xC7, Imm: 63}, api.OK},
		{api.Insn{Op: 0xC7, Imm: -1}, api.ErrRange},
		{api.Insn{Op: 0x0F, Dst: 9, Src: 10}, api.OK},
		{api.Insn{Op: 0x0F, Dst: 9, Src: 11}, api.ErrReg},
		{api.Insn{Op: 0x0F, Dst: 9, Src: -1}, api.ErrReg},
		{api.Insn{Op: 0x0F, Imm: 1}, api.ErrField},
		{api.Insn{Op: 0x6F, Imm: 64}, api.ErrField},
		{api.Insn{Op: 0x84, Dst: 9}, api.OK},
		{api.Insn{Op: 0x84, Dst: 10}, api.ErrReg},
		{api.Insn{Op: 0x87, Src: 1}, api.ErrField},
		{api.Insn{Op: 0x8C}, api.ErrOp},
		{api.Insn{Op: 0x8F}, api.ErrOp},
		{api.Insn{Op: 0xD4, Imm: 16}, api.OK},
		{api.Insn{Op: 0xDC, Imm: 64}, api.OK},
		{api.Insn{Op: 0xDC, Imm: 0}, api.ErrRange},
		{api.Insn{Op: 0xDC, Imm: 8}, api.ErrRange},
		{api.Insn{Op: 0xD7, Imm: 16}, api.ErrOp},
		{api.Insn{Op: 0x05, Off: -1 << 15}, api.OK},
		{api.Insn{Op: 0x05, Off: 1 << 15}, api.ErrRange},
		{api.Insn{Op: 0x05, Imm: 1}, api.ErrField},
		{api.Insn{Op: 0x05, Dst: 1}, api.ErrField},
		{api.Insn{Op: 0x06}, api.ErrOp},
		{api.Insn{Op: 0x0D}, api.ErrOp},
		{api.Insn{Op: 0x15, Dst: 10, Off: 1<<15 - 1, Imm: -1 << 31}, api.OK},
		{api.Insn{Op: 0x16, Off: -1<<15 - 1}, api.ErrRange},
		{api.Insn{Op: 0x15, Src: 1}, api.ErrField},
		{api.Insn{Op: 0x1D, Dst: 10, Src: 10}, api.OK},
		{api.Insn{Op: 0x1E, Imm: 1}, api.ErrField},
		{api.Insn{Op: 0x85, Imm: -1 << 31}, api.OK},
		{api.Insn{Op: 0x85, Imm: 1 << 31}, api.ErrRange},
		{api.Insn{Op: 0x85, Dst: 1}, api.ErrField},
		{api.Insn{Op: 0x86}, api.ErrOp},
		{api.Insn{Op: 0x8D}, api.ErrOp},
		{api.Insn{Op: 0x96}, api.ErrOp},
		{api.Insn{Op: 0x9D}, api.ErrOp},
		{api.Insn{Op: 0x95, Dst: 10}, api.ErrField},
		{api.Insn{Op: 0x95, Dst: 11}, api.ErrReg},
		{api.Insn{Op: 0x18, Dst: 9, Imm: math.MinInt}, api.OK},
		{api.Insn{Op: 0x18, Dst: 9, Imm: math.MaxInt}, api.OK},
		{api.Insn{Op: 0x18, Src: 1, Imm: 1<<31 - 1}, api.OK},
		{api.Insn{Op: 0x18, Src: 1, Imm: 1 << 31}, api.ErrRange},
		{api.Insn{Op: 0x18, Src: 1, Imm: -1}, api.ErrRange},
		{api.Insn{Op: 0x18, Src: 2}, api.ErrField},
		{api.Insn{Op: 0x18, Src: 10}, api.ErrField},
		{api.Insn{Op: 0x18, Src: 11}, api.ErrReg},
		{api.Insn{Op: 0x18, Dst: 10}, api.ErrReg},
		{api.Insn{Op: 0x18, Off: 1}, api.ErrField},
		{api.Insn{Op: 0x79, Dst: 9, Src: 10, Off: -8}, api.OK},
		{api.Insn{Op: 0x79, Dst: 10, Src: 1}, api.ErrReg},
		{api.Insn{Op: 0x79, Imm: 1}, api.ErrField},
		{api.Insn{Op: 0x72, Dst: 10, Off: -1, Imm: 300}, api.OK},
		{api.Insn{Op: 0x72, Src: 1}, api.ErrField},
		{api.Insn{Op: 0x73, Dst: 10, Src: 10, Off: 1 << 15}, api.ErrRange},
		{api.Insn{Op: 0x73, Imm: 1}, api.ErrField},
		{api.Insn{Op: 0xC3, Dst: 10, Src: 10, Imm: 0xA0}, api.OK},
		{api.Insn{Op: 0xC3, Dst: 10, Src: 10, Imm: 0xA1}, api.ErrReg},
		{api.Insn{Op: 0xDB, Dst: 10, Src: 9, Imm: 0xE1}, api.OK},
		{api.Insn{Op: 0xDB, Src: 10, Imm: 0xE1}, api.ErrReg},
		{api.Insn{Op: 0xDB, Src: 10, Imm: 0xF1}, api.ErrReg},
		{api.Insn{Op: 0xDB, Src: 10, Imm: 0xF0}, api.ErrRange},
		{api.Insn{Op: 0xDB, Imm: 0x10}, api.ErrRange},
		{api.Insn{Op: 0xCB}, api.ErrOp},
		{api.Insn{Op: 0xD3}, api.ErrOp},
	} {
		if got := insn.Check(x.x); got != x.want {
			t.Errorf("Check(%+v): %d, not %d", x.x, got, x.want)
		}
	}
}

// P2.2, which error is told where several apply.
func TestCheckFirst(t *testing.T) {
	for _, x := range []struct {
		x    api.Insn
		want api.Errno
	}{
		{api.Insn{Op: 0x00, Dst: 11, Src: 11, Off: 1 << 15, Imm: 1 << 31}, api.ErrOp},
		{api.Insn{Op: 0x95 + 256, Dst: 11, Off: 1}, api.ErrOp},
		{api.Insn{Op: 0x07, Dst: 10, Src: 1, Off: 1, Imm: 1 << 31}, api.ErrReg},
		{api.Insn{Op: 0x07, Src: 11, Off: 1, Imm: 1 << 31}, api.ErrReg},
		{api.Insn{Op: 0x95, Src: 11, Imm: 1}, api.ErrReg},
		{api.Insn{Op: 0x05, Dst: -1, Off: 1 << 15}, api.ErrReg},
		{api.Insn{Op: 0x07, Off: 1, Imm: 1 << 31}, api.ErrField},
		{api.Insn{Op: 0x05, Off: 1 << 15, Imm: 1}, api.ErrField},
		{api.Insn{Op: 0x95, Off: 1 << 15}, api.ErrField},
		{api.Insn{Op: 0x95, Imm: 1 << 31}, api.ErrField},
		{api.Insn{Op: 0x18, Src: 2, Imm: -1}, api.ErrField},
		{api.Insn{Op: 0xDB, Src: 10, Imm: 1, Off: 1 << 15}, api.ErrReg},
		{api.Insn{Op: 0xDB, Src: 11, Imm: 0x10}, api.ErrReg},
	} {
		if got := insn.Check(x.x); got != x.want {
			t.Errorf("Check(%+v): %d, not %d", x.x, got, x.want)
		}
	}
}

// P2.2, every row's opcodes with the edges of every field.
func TestCheckOfAll(t *testing.T) {
	for _, l := range lines {
		for _, op := range l.ops {
			counts := map[api.Errno]int{}
			everyField(l, op, func(x api.Insn) {
				want := l.wrong(x)
				counts[want]++
				if got := insn.Check(x); got != want {
					t.Fatalf("%s: Check(%+v): %d, not %d", l.name, x, got, want)
				}
			})
			// Of the atomic ones each field is named.
			if counts[api.OK] == 0 || counts[api.ErrReg] == 0 || counts[api.ErrField] == 0 && l.name != "atomic" {
				t.Fatalf("%s: opcode %#x: the edges are too few: %v", l.name, op, counts)
			}
		}
	}
}

// everyField goes through an opcode's instructions with the edges of all fields, and with the far ones of one field beside a right instruction's.
func everyField(l line, op int, do func(api.Insn)) {
	var right api.Insn
	for _, dst := range registers {
		for _, src := range registers {
			for _, off := range offs {
				for _, imm := range imms {
					x := api.Insn{Op: op, Dst: dst, Src: src, Off: off, Imm: imm}
					if right.Op == 0 && l.wrong(x) == api.OK {
						right = x
					}
					do(x)
				}
			}
		}
	}
	tryEach(right, farRegisters, do, func(x *api.Insn) *int { return &x.Dst })
	tryEach(right, farRegisters, do, func(x *api.Insn) *int { return &x.Src })
	tryEach(right, farOffs, do, func(x *api.Insn) *int { return &x.Off })
	tryEach(right, farImms, do, func(x *api.Insn) *int { return &x.Imm })
}

// tryEach puts each of the values into one field of an instruction.
func tryEach(x api.Insn, values []int, do func(api.Insn), field func(*api.Insn) *int) {
	for _, v := range values {
		y := x
		*field(&y) = v
		do(y)
	}
}

// P2.2, opcodes that no row has.
func TestCheckOfNone(t *testing.T) {
	for _, op := range noOpcodes() {
		for _, x := range []api.Insn{{Op: op}, {Op: op, Dst: 1}, {Op: op, Imm: 16}, {Op: op, Dst: 11, Src: -1, Off: 1 << 15, Imm: 1 << 31}} {
			if got := insn.Check(x); got != api.ErrOp {
				t.Errorf("Check(%+v): %d, not ErrOp", x, got)
			}
		}
	}
}
