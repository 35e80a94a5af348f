package insn

import (
	"crossbar/api"
	"crossbar/word"
)

// half is how many bytes an instruction has, and each half of a wide one.
const half = 8

// Put is instructions as bytes.
func Put(l []api.Insn) ([]byte, api.Errno) {
	if len(l) > api.MaxInsns {
		return nil, api.ErrMany
	}
	var out []byte
	for _, x := range l {
		if no := Check(x); no != api.OK {
			return nil, no
		}
		out = append(out, bytesOf(x)...)
	}
	return out, api.OK
}

// Get is the instructions that bytes are.
func Get(b []byte) ([]api.Insn, api.Errno) {
	var out []api.Insn
	for len(b) > 0 {
		if len(out) == api.MaxInsns {
			return nil, api.ErrMany
		}
		x, no := first(b)
		if no != api.OK {
			return nil, no
		}
		out = append(out, x)
		b = b[length(x.Op):]
	}
	return out, api.OK
}

// length is how many bytes an instruction with that opcode has.
func length(op int) int {
	if op == WideOp {
		return 2 * half
	}
	return half
}

// bytesOf is a valid instruction's bytes.
func bytesOf(x api.Insn) []byte {
	b := make([]byte, length(x.Op))
	b[0] = byte(x.Op)
	b[1] = byte(x.Src<<4 | x.Dst)
	word.Put(b, 2, 2, uint64(x.Off))
	word.Put(b, 4, 4, uint64(x.Imm))
	if x.Op == WideOp {
		word.Put(b, half+4, 4, uint64(x.Imm)>>32)
	}
	return b
}

// first is the instruction with which bytes begin; there is at least one of them.
func first(b []byte) (api.Insn, api.Errno) {
	op := int(b[0])
	if len(b) < length(op) {
		return api.Insn{}, api.ErrShort
	}
	off, _ := word.Get(b, 2, 2)
	imm, _ := word.Get(b, 4, 4)
	x := api.Insn{Op: op, Dst: int(b[1] & 15), Src: int(b[1] >> 4), Off: int(int16(off)), Imm: int(int32(imm))}
	if op == WideOp {
		if begin, _ := word.Get(b, half, 4); begin != 0 {
			return api.Insn{}, api.ErrField
		}
		upper, _ := word.Get(b, half+4, 4)
		x.Imm = int(upper<<32 | imm)
	}
	if no := Check(x); no != api.OK {
		return api.Insn{}, no
	}
	return x, api.OK
}
