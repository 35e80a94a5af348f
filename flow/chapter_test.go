package flow_test

import (
	"slices"

	"crossbar/api"
)

// The opcodes that insn.Check knows, by how they go on, written out.
var (
	plainOps = []int{
		0x04, 0x14, 0x24, 0x34, 0x44, 0x54, 0x64, 0x74, 0x84, 0x94, 0xA4, 0xB4, 0xC4, 0xD4, 0xDC,
		0x0C, 0x1C, 0x2C, 0x3C, 0x4C, 0x5C, 0x6C, 0x7C, 0x9C, 0xAC, 0xBC, 0xCC,
		0x07, 0x17, 0x27, 0x37, 0x47, 0x57, 0x67, 0x77, 0x87, 0x97, 0xA7, 0xB7, 0xC7,
		0x0F, 0x1F, 0x2F, 0x3F, 0x4F, 0x5F, 0x6F, 0x7F, 0x9F, 0xAF, 0xBF, 0xCF,
		0x61, 0x69, 0x71, 0x79, 0x62, 0x6A, 0x72, 0x7A, 0x63, 0x6B, 0x73, 0x7B, 0xC3, 0xDB,
		0x85,
	}
	comparingOps = []int{
		0x15, 0x25, 0x35, 0x45, 0x55, 0x65, 0x75, 0xA5, 0xB5, 0xC5, 0xD5,
		0x1D, 0x2D, 0x3D, 0x4D, 0x5D, 0x6D, 0x7D, 0xAD, 0xBD, 0xCD, 0xDD,
		0x16, 0x26, 0x36, 0x46, 0x56, 0x66, 0x76, 0xA6, 0xB6, 0xC6, 0xD6,
		0x1E, 0x2E, 0x3E, 0x4E, 0x5E, 0x6E, 0x7E, 0xAE, 0xBE, 0xCE, 0xDE,
	}
)

const (
	wideCode = 0x18
	jaCode   = 0x05
	callCode = 0x85
	exitCode = 0x95
)

// Instructions of all kinds.
var (
	mov  = api.Insn{Op: 0xB7}
	exit = api.Insn{Op: exitCode}
	wide = api.Insn{Op: wideCode}
	call = api.Insn{Op: callCode, Imm: 7}
)

func ja(off int) api.Insn    { return api.Insn{Op: jaCode, Off: off} }
func jeq(off int) api.Insn   { return api.Insn{Op: 0x15, Off: off} }
func jlt32(off int) api.Insn { return api.Insn{Op: 0xAE, Dst: 1, Src: 10, Off: off} }

// list is a program.
func list(l ...api.Insn) []api.Insn { return l }

// of is a program of as many times the same.
func of(n int, x api.Insn) []api.Insn { return slices.Repeat(list(x), n) }

// join is a program of several parts.
func join(parts ...[]api.Insn) []api.Insn { return slices.Concat(parts...) }

// cells are what stands at each place: an instruction's index at its first one, -1 at the second one of a wide one.
func cells(l []api.Insn) []int {
	var out []int
	for i, x := range l {
		out = append(out, i)
		if x.Op == wideCode {
			out = append(out, -1)
		}
	}
	return out
}

// isJump is the chapter's definition, by the opcodes written out.
func isJump(x api.Insn) bool { return x.Op == jaCode || slices.Contains(comparingOps, x.Op) }

// leads is the target of each jump by the chapter's definitions, -1 of all others, and whether all targets are there.
func leads(l []api.Insn) ([]int, bool) {
	at := cells(l)
	out := make([]int, len(l))
	for i, x := range l {
		out[i] = -1
		if !isJump(x) {
			continue
		}
		target := slices.Index(at, i) + 1 + x.Off
		if target < 0 || target >= len(at) || at[target] < 0 {
			return nil, false
		}
		out[i] = at[target]
	}
	return out, true
}

// follows tells whether the next instruction is a successor by kind.
func follows(x api.Insn) bool { return x.Op != exitCode && x.Op != jaCode }

// successor tells whether an instruction of a list goes on to another one, given all targets.
func successor(l []api.Insn, t []int, from, to int) bool {
	return follows(l[from]) && to == from+1 || isJump(l[from]) && to == t[from]
}

// allReached tells whether each instruction is reached: whatever a reached one goes on to is so, till nothing is new.
func allReached(l []api.Insn, t []int) bool {
	known := make([]bool, len(l))
	known[0] = true
	for grown := true; grown; {
		grown = false
		for from := range l {
			for to := range l {
				if known[from] && !known[to] && successor(l, t, from, to) {
					known[to], grown = true, true
				}
			}
		}
	}
	return !slices.Contains(known, false)
}

// targets is what P6.2 asks of Targets.
func targets(l []api.Insn) ([]int, api.Errno) {
	if len(l) > 256 {
		return nil, api.ErrMany
	}
	if len(l) == 0 {
		return nil, api.ErrEnd
	}
	t, ok := leads(l)
	if !ok {
		return nil, api.ErrJump
	}
	if follows(l[len(l)-1]) {
		return nil, api.ErrEnd
	}
	if !allReached(l, t) {
		return nil, api.ErrDead
	}
	return t, api.OK
}

// next is what P6.3 asks of Next.
func next(l []api.Insn, t []int, i int) []int {
	var out []int
	if follows(l[i]) {
		out = append(out, i+1)
	}
	if isJump(l[i]) && (len(out) == 0 || out[0] != t[i]) {
		out = append(out, t[i])
	}
	return out
}

// dice are numbers that look thrown, the same ones each time.
type dice uint64

// upTo is one from 0 to n - 1.
func (d *dice) upTo(n int) int {
	*d = *d*6364136223846793005 + 1442695040888963407
	return int(uint64(*d) >> 33 % uint64(n))
}

// program is one of so many instructions; its jumps come down at any of them, but one of so many (0: none), which is off by one.
func (d *dice) program(n, stray int) []api.Insn {
	l := make([]api.Insn, n)
	for i := range l {
		l[i] = d.insn()
	}
	at := cells(l)
	for i := range l {
		if !isJump(l[i]) {
			continue
		}
		l[i].Off = slices.Index(at, d.upTo(n)) - slices.Index(at, i) - 1
		if stray > 0 && d.upTo(stray) == 0 {
			l[i].Off++
		}
	}
	if d.upTo(8) > 0 {
		l[n-1] = exit
	}
	return l
}

// insn is one of any kind, seldom one behind which the next is no successor.
func (d *dice) insn() api.Insn {
	switch d.upTo(60) {
	case 0:
		return exit
	case 1:
		return ja(0)
	}
	switch d.upTo(4) {
	case 0:
		return wide
	case 1:
		return api.Insn{Op: plainOps[d.upTo(len(plainOps))]}
	}
	return api.Insn{Op: comparingOps[d.upTo(len(comparingOps))]}
}
