package insn_test

import (
	"bytes"
	"encoding/binary"
	"math"
	"slices"
	"testing"

	"crossbar/api"
	"crossbar/insn"
)

// pair is an instruction and its bytes.
type pair struct {
	x api.Insn
	b []byte
}

var pairs = []pair{
	{api.Insn{Op: 0xB7, Dst: 2, Imm: -1}, []byte{0xB7, 2, 0, 0, 0xFF, 0xFF, 0xFF, 0xFF}},
	{api.Insn{Op: 0x6B, Dst: 10, Src: 3, Off: -8}, []byte{0x6B, 0x3A, 0xF8, 0xFF, 0, 0, 0, 0}},
	{api.Insn{Op: 0x18, Dst: 1, Src: 1, Imm: 4}, []byte{0x18, 0x11, 0, 0, 4, 0, 0, 0, 0, 0, 0, 0, 0, 0, 0, 0}},
	{api.Insn{Op: 0xDB, Imm: 0xF1}, []byte{0xDB, 0, 0, 0, 0xF1, 0, 0, 0}},
	{api.Insn{Op: 0x95}, []byte{0x95, 0, 0, 0, 0, 0, 0, 0}},
	{api.Insn{Op: 0x18, Dst: 9, Imm: 0x0102030405060708}, []byte{0x18, 9, 0, 0, 8, 7, 6, 5, 0, 0, 0, 0, 4, 3, 2, 1}},
	{api.Insn{Op: 0x18, Imm: -2}, []byte{0x18, 0, 0, 0, 0xFE, 0xFF, 0xFF, 0xFF, 0, 0, 0, 0, 0xFF, 0xFF, 0xFF, 0xFF}},
	{api.Insn{Op: 0x18, Imm: 1<<32 - 1}, []byte{0x18, 0, 0, 0, 0xFF, 0xFF, 0xFF, 0xFF, 0, 0, 0, 0, 0, 0, 0, 0}},
	{api.Insn{Op: 0x18, Imm: math.MinInt}, []byte{0x18, 0, 0, 0, 0, 0, 0, 0, 0, 0, 0, 0, 0, 0, 0, 0x80}},
	{api.Insn{Op: 0x18, Src: 1, Imm: 1<<31 - 1}, []byte{0x18, 0x10, 0, 0, 0xFF, 0xFF, 0xFF, 0x7F, 0, 0, 0, 0, 0, 0, 0, 0}},
	{api.Insn{Op: 0x1D, Dst: 10, Src: 10, Off: 258}, []byte{0x1D, 0xAA, 2, 1, 0, 0, 0, 0}},
	{api.Insn{Op: 0x05, Off: -1 << 15}, []byte{0x05, 0, 0, 0x80, 0, 0, 0, 0}},
	{api.Insn{Op: 0x05, Off: 1<<15 - 1}, []byte{0x05, 0, 0xFF, 0x7F, 0, 0, 0, 0}},
	{api.Insn{Op: 0x62, Dst: 10, Off: -1, Imm: -1 << 31}, []byte{0x62, 0x0A, 0xFF, 0xFF, 0, 0, 0, 0x80}},
	{api.Insn{Op: 0x15, Dst: 9, Off: 1, Imm: 1<<31 - 1}, []byte{0x15, 9, 1, 0, 0xFF, 0xFF, 0xFF, 0x7F}},
}

// valid are instructions of every row with edges of every field: those that Check accepts.
func valid() []api.Insn {
	var out []api.Insn
	for _, l := range lines {
		for _, op := range l.ops {
			everyField(l, op, func(x api.Insn) {
				if l.wrong(x) == api.OK {
					out = append(out, x)
				}
			})
		}
	}
	return out
}

// encoded is a valid instruction as the chapter has it in bytes.
func encoded(x api.Insn) []byte {
	b := []byte{byte(x.Op), byte(x.Dst + 16*x.Src)}
	b = binary.LittleEndian.AppendUint16(b, uint16(x.Off))
	b = binary.LittleEndian.AppendUint32(b, uint32(x.Imm))
	if x.Op == 0x18 {
		b = append(b, 0, 0, 0, 0)
		b = binary.LittleEndian.AppendUint32(b, uint32(x.Imm>>32))
	}
	return b
}

// P2.3 and P2.4, the chapter's examples and the ends of each field, alone and in one list.
func TestPutGet(t *testing.T) {
	var all []api.Insn
	var whole []byte
	for _, p := range pairs {
		if b, no := insn.Put([]api.Insn{p.x}); no != api.OK || !bytes.Equal(b, p.b) {
			t.Errorf("Put(%+v): % x, %d", p.x, b, no)
		}
		if l, no := insn.Get(p.b); no != api.OK || !slices.Equal(l, []api.Insn{p.x}) {
			t.Errorf("Get(% x): %+v, %d", p.b, l, no)
		}
		all, whole = append(all, p.x), append(whole, p.b...)
	}
	if b, no := insn.Put(all); no != api.OK || !bytes.Equal(b, whole) {
		t.Errorf("Put of all: % x, %d", b, no)
	}
	if l, no := insn.Get(whole); no != api.OK || !slices.Equal(l, all) {
		t.Errorf("Get of all: %+v, %d", l, no)
	}
}

// P2.3 and P2.4, nothing at all.
func TestNothing(t *testing.T) {
	for _, l := range [][]api.Insn{nil, {}} {
		if b, no := insn.Put(l); len(b) != 0 || no != api.OK {
			t.Errorf("Put of nothing: % x, %d", b, no)
		}
	}
	for _, b := range [][]byte{nil, {}} {
		if l, no := insn.Get(b); len(l) != 0 || no != api.OK {
			t.Errorf("Get of nothing: %+v, %d", l, no)
		}
	}
}

// P2.3 and P2.5, every row with every edge: the bytes, and what is got from them.
func TestRoundTrip(t *testing.T) {
	list := valid()
	for _, l := range lines {
		if !slices.ContainsFunc(list, func(x api.Insn) bool { return slices.Contains(l.ops, x.Op) }) {
			t.Errorf("no instruction of the row %s is tried", l.name)
		}
	}
	for part := range slices.Chunk(list, api.MaxInsns) {
		var want []byte
		for _, x := range part {
			want = append(want, encoded(x)...)
		}
		b, no := insn.Put(part)
		if no != api.OK || !bytes.Equal(b, want) {
			t.Fatalf("Put from %+v on: error %d, or wrong bytes", part[0], no)
		}
		if l, no := insn.Get(b); no != api.OK || !slices.Equal(l, part) {
			t.Fatalf("Get of what Put made from %+v on: error %d, or other instructions", part[0], no)
		}
	}
}

// P2.4 and P2.5, bytes of all kinds: an error is that which the fields have, and what is got is the same bytes again.
func TestGetOfBytes(t *testing.T) {
	row := map[int]line{}
	for _, l := range lines {
		for _, op := range l.ops {
			row[op] = l
		}
	}
	good := 0
	for op := range 256 {
		everyByte(op, func(b []byte) {
			want := api.ErrOp
			if l, ok := row[op]; ok {
				want = l.wrong(decoded(b))
			}
			l, no := insn.Get(b)
			switch {
			case no != want, no != api.OK && len(l) != 0:
				t.Fatalf("Get(% x): %+v, %d, not error %d", b, l, no, want)
			case no == api.OK:
				good++
				if again, no := insn.Put(l); no != api.OK || !bytes.Equal(again, b) {
					t.Fatalf("Put of Get(% x): % x, %d", b, again, no)
				}
			}
		})
	}
	if good < 1000 {
		t.Errorf("only %d of the bytes are instructions", good)
	}
}

// everyByte goes through bytes that begin with an opcode; the second half of a wide one begins with four zeros.
func everyByte(op int, do func([]byte)) {
	for _, regs := range []byte{0x00, 0x01, 0x09, 0x0A, 0x0B, 0x0F, 0x10, 0x20, 0x90, 0xA0, 0xAA, 0xB0, 0xF0, 0xFF} {
		for _, off := range []uint16{0, 1, 0x7FFF, 0x8000, 0xFFFF} {
			for _, imm := range []uint32{0, 1, 0x10, 0x1F, 0x20, 0x3F, 0x40, 0x50, 0xA1, 0xE1, 0xF1, 0x7FFFFFFF, 0x80000000, 0xFFFFFFFF} {
				b := binary.LittleEndian.AppendUint16([]byte{byte(op), regs}, off)
				b = binary.LittleEndian.AppendUint32(b, imm)
				if op != 0x18 {
					do(b)
					continue
				}
				for _, upper := range []uint32{0, 1, 0x7FFFFFFF, 0x80000000, 0xFFFFFFFF} {
					do(binary.LittleEndian.AppendUint32(append(bytes.Clone(b), 0, 0, 0, 0), upper))
				}
			}
		}
	}
}

// decoded is the instruction that eight bytes, or sixteen, are.
func decoded(b []byte) api.Insn {
	x := api.Insn{Op: int(b[0]), Dst: int(b[1]) % 16, Src: int(b[1]) / 16}
	x.Off = int(int16(binary.LittleEndian.Uint16(b[2:])))
	x.Imm = int(int32(binary.LittleEndian.Uint32(b[4:])))
	if len(b) == 16 {
		x.Imm = int(uint64(binary.LittleEndian.Uint32(b[4:])) + 1<<32*uint64(binary.LittleEndian.Uint32(b[12:])))
	}
	return x
}

// P2.3, Check's errors: the first in order, and no bytes beside it.
func TestPutWrong(t *testing.T) {
	good, field, reg := api.Insn{Op: 0x95}, api.Insn{Op: 0x95, Imm: 1}, api.Insn{Op: 0x07, Dst: 10}
	for _, x := range []struct {
		name string
		l    []api.Insn
		want api.Errno
	}{
		{"no opcode", []api.Insn{{}}, api.ErrOp},
		{"an opcode above 255", []api.Insn{{Op: 256 + 0x95}}, api.ErrOp},
		{"an opcode below 0", []api.Insn{{Op: 0x95 - 256}}, api.ErrOp},
		{"no register", []api.Insn{{Op: 0xBF, Src: 16}}, api.ErrReg},
		{"a field", []api.Insn{field}, api.ErrField},
		{"a range", []api.Insn{{Op: 0x05, Off: 1 << 16}}, api.ErrRange},
		{"the last one", []api.Insn{good, good, reg}, api.ErrReg},
		{"two, a field first", []api.Insn{good, field, reg}, api.ErrField},
		{"two, a register first", []api.Insn{good, reg, field}, api.ErrReg},
	} {
		if b, no := insn.Put(x.l); no != x.want || len(b) != 0 {
			t.Errorf("%s: % x, %d, not %d", x.name, b, no, x.want)
		}
	}
}

// P2.4, bytes that are none.
func TestGetWrong(t *testing.T) {
	exit := []byte{0x95, 0, 0, 0, 0, 0, 0, 0}
	wideOne := []byte{0x18, 0, 0, 0, 1, 2, 3, 4, 0, 0, 0, 0, 5, 6, 7, 8}
	for _, x := range []struct {
		name string
		b    []byte
		want api.Errno
	}{
		{"no opcode", make([]byte, 8), api.ErrOp},
		{"a register", []byte{0xB7, 0xB0, 0, 0, 0, 0, 0, 0}, api.ErrReg},
		{"a field", []byte{0x95, 0, 0, 0, 1, 0, 0, 0}, api.ErrField},
		{"a range", []byte{0x67, 0, 0, 0, 64, 0, 0, 0}, api.ErrRange},
		{"an atomic imm of none", []byte{0xDB, 0, 0, 0, 2, 0, 0, 0}, api.ErrRange},
		{"a map above 31 bits", []byte{0x18, 0x10, 0, 0, 0, 0, 0, 0x80, 0, 0, 0, 0, 0, 0, 0, 0}, api.ErrRange},
		{"a map above 32 bits", []byte{0x18, 0x10, 0, 0, 0, 0, 0, 0, 0, 0, 0, 0, 1, 0, 0, 0}, api.ErrRange},
		{"a wide one with Off", []byte{0x18, 0, 1, 0, 0, 0, 0, 0, 0, 0, 0, 0, 0, 0, 0, 0}, api.ErrField},
		{"a wide one with Src 2", []byte{0x18, 0x20, 0, 0, 0, 0, 0, 0, 0, 0, 0, 0, 0, 0, 0, 0}, api.ErrField},
		{"wrong and cut", []byte{0, 0xFF, 0, 0, 0, 0, 0}, api.ErrShort},
		{"wrong, wide and cut", []byte{0x18, 0xFF, 0, 0, 0, 0, 0, 0, 9, 9, 9, 9, 9, 9, 9}, api.ErrShort},
		{"a second half before a register", []byte{0x18, 0xFF, 0, 0, 0, 0, 0, 0, 1, 0, 0, 0, 0, 0, 0, 0}, api.ErrField},
		{"wrong, then cut", slices.Concat(make([]byte, 8), []byte{0x95}), api.ErrOp},
		{"cut after a right one", slices.Concat(exit, []byte{0x95}), api.ErrShort},
		{"wrong after right ones", slices.Concat(exit, wideOne, []byte{0xB7, 0x0A, 0, 0, 0, 0, 0, 0}), api.ErrReg},
		{"a second half where an instruction must be", slices.Concat(exit, wideOne[8:]), api.ErrOp},
		{"the first of two", slices.Concat([]byte{0x95, 0x0B, 0, 0, 0, 0, 0, 0}, make([]byte, 8)), api.ErrReg},
	} {
		if l, no := insn.Get(x.b); no != x.want || len(l) != 0 {
			t.Errorf("%s: %+v, %d, not %d", x.name, l, no, x.want)
		}
	}
}

// P2.4, bytes that are cut at each place within an instruction, and within a wide one.
func TestGetCut(t *testing.T) {
	for _, p := range pairs {
		for _, before := range [][]byte{nil, {0x95, 0, 0, 0, 0, 0, 0, 0}} {
			for n := 1; n < len(p.b); n++ {
				b := slices.Concat(before, p.b[:n])
				if l, no := insn.Get(b); no != api.ErrShort || len(l) != 0 {
					t.Errorf("Get(% x): %+v, %d, not ErrShort", b, l, no)
				}
			}
		}
	}
}

// P2.4, a second half that does not begin with four zeros: any bit of them.
func TestGetSecondHalf(t *testing.T) {
	for at := 8; at < 12; at++ {
		for bit := range 8 {
			b := []byte{0x18, 0, 0, 0, 1, 0, 0, 0, 0, 0, 0, 0, 0, 0, 0, 0}
			b[at] = 1 << bit
			if l, no := insn.Get(b); no != api.ErrField || len(l) != 0 {
				t.Errorf("Get(% x): %+v, %d, not ErrField", b, l, no)
			}
		}
	}
}

// P2.3 and P2.4, as many instructions as may be, narrow and wide, and one more.
func TestMany(t *testing.T) {
	for _, x := range []api.Insn{{Op: 0x95}, {Op: 0x18, Imm: -1}} {
		list := slices.Repeat([]api.Insn{x}, api.MaxInsns)
		whole := bytes.Repeat(encoded(x), api.MaxInsns)
		if b, no := insn.Put(list); no != api.OK || !bytes.Equal(b, whole) {
			t.Errorf("Put of 256 of %#x: %d bytes, %d", x.Op, len(b), no)
		}
		if l, no := insn.Get(whole); no != api.OK || !slices.Equal(l, list) {
			t.Errorf("Get of 256 of %#x: %d instructions, %d", x.Op, len(l), no)
		}
		if b, no := insn.Put(append(list, x)); no != api.ErrMany || len(b) != 0 {
			t.Errorf("Put of 257 of %#x: %d bytes, %d", x.Op, len(b), no)
		}
		for _, more := range [][]byte{{0}, {0x18}, make([]byte, 8), encoded(x)} {
			if l, no := insn.Get(slices.Concat(whole, more)); no != api.ErrMany || len(l) != 0 {
				t.Errorf("Get of 256 of %#x and % x: %d instructions, %d", x.Op, more, len(l), no)
			}
		}
	}
}

// P2.3 and P2.4, too many of which one is wrong: Put counts first; Get finds what comes first.
func TestManyAndWrong(t *testing.T) {
	list := slices.Repeat([]api.Insn{{Op: 0x95}}, api.MaxInsns+1)
	list[0] = api.Insn{}
	if b, no := insn.Put(list); no != api.ErrMany || len(b) != 0 {
		t.Errorf("Put: %d bytes, %d", len(b), no)
	}
	whole := bytes.Repeat([]byte{0x95, 0, 0, 0, 0, 0, 0, 0}, api.MaxInsns+1)
	whole[8*(api.MaxInsns-1)] = 0
	if l, no := insn.Get(whole); no != api.ErrOp || len(l) != 0 {
		t.Errorf("Get: %d instructions, %d", len(l), no)
	}
}

// R3 of Put: neither the list nor what lies behind its end is changed, and the bytes are new each time.
func TestPutAlone(t *testing.T) {
	spare := make([]api.Insn, 8)
	for i := range spare {
		spare[i] = api.Insn{Op: 0xB7, Dst: 1, Imm: i}
	}
	spare[1] = api.Insn{Op: 0x18, Dst: 2, Imm: -3}
	same := slices.Clone(spare)
	list := spare[:3]
	first, _ := insn.Put(list)
	second, _ := insn.Put(list)
	want := bytes.Clone(first)
	if !slices.Equal(spare, same) {
		t.Error("Put has changed the list:", spare)
	}
	for i := range second[:cap(second)] {
		second[:cap(second)][i] ^= 0xFF
	}
	list[0].Imm = 99
	if !bytes.Equal(first, want) {
		t.Errorf("Put's bytes are not its own: % x", first)
	}
	if third, no := insn.Put(same[:3]); no != api.OK || !bytes.Equal(third, want) {
		t.Errorf("Put's second answer: % x, %d", third, no)
	}
}

// R3 of Get: neither the bytes nor what lies behind their end is changed, and the instructions are new each time.
func TestGetAlone(t *testing.T) {
	spare := bytes.Repeat([]byte{0xEE}, 64)
	copy(spare, slices.Concat(pairs[0].b, pairs[2].b, pairs[4].b))
	same := bytes.Clone(spare)
	b := spare[:32]
	first, _ := insn.Get(b)
	second, _ := insn.Get(b)
	want := []api.Insn{pairs[0].x, pairs[2].x, pairs[4].x}
	if !bytes.Equal(spare, same) {
		t.Errorf("Get has changed the bytes: % x", spare)
	}
	for i := range second[:cap(second)] {
		second[:cap(second)][i].Op = 1
	}
	clear(b)
	if !slices.Equal(first, want) {
		t.Errorf("Get's instructions are not its own: %+v", first)
	}
	if third, no := insn.Get(same[:32]); no != api.OK || !slices.Equal(third, want) {
		t.Errorf("Get's second answer: %+v, %d", third, no)
	}
	// What is wrong, or too much, or cut, is left as it was as well.
	for _, cut := range []int{1, 8, 15, 33, 64} {
		spare = bytes.Clone(same)
		insn.Get(spare[:cut])
		if !bytes.Equal(spare, same) {
			t.Errorf("Get of %d bytes has changed them: % x", cut, spare)
		}
	}
}
