package smem_test

import (
	"math"
	"testing"

	"crossbar/api"
	"crossbar/smem"
	"crossbar/word"
)

// state is what P8.5 tells of a memory.
type state struct{ room, live, count, bad int }

func stateOf(m *smem.Mem) state { return state{m.Room(), m.Live(), m.Count(), m.Bad()} }

func isState(t *testing.T, m *smem.Mem, want state) {
	t.Helper()
	if got := stateOf(m); got != want {
		t.Errorf("room, live, count, bad: %+v, not %+v", got, want)
	}
}

func makes(t *testing.T, m *smem.Mem, words, h int, no api.Errno) {
	t.Helper()
	if gotH, gotNo := m.Make(words); gotH != h || gotNo != no {
		t.Errorf("Make(%d): %d, %d, not %d, %d", words, gotH, gotNo, h, no)
	}
}

func frees(t *testing.T, m *smem.Mem, h int, is bool) {
	t.Helper()
	if got := m.Free(h); got != is {
		t.Errorf("Free(%d): %v, not %v", h, got, is)
	}
}

func isSize(t *testing.T, m *smem.Mem, h, want int) {
	t.Helper()
	if got := m.Size(h); got != want {
		t.Errorf("Size(%d): %d, not %d", h, got, want)
	}
}

func gives(t *testing.T, m *smem.Mem, a access, want uint64, is bool) {
	t.Helper()
	if got, ok := a.on(m); got != want || ok != is {
		t.Errorf("%+v: %#x, %v, not %#x, %v", a, got, ok, want, is)
	}
}

func holds(t *testing.T, m *smem.Mem, h, i int, want uint64) {
	t.Helper()
	gives(t, m, access{kind: "Load", h: h, i: i}, want, true)
}

// The chapter's examples, in their order.
func TestExamples(t *testing.T) {
	m := smem.New(5)
	makes(t, m, 3, 1, api.OK)
	makes(t, m, 3, 0, api.ErrMem)
	makes(t, m, 2, 2, api.OK)
	makes(t, m, 0, 0, api.ErrArg)
	if !m.Store(1, 2, 7) {
		t.Error("Store")
	}
	holds(t, m, 1, 2, 7)
	gives(t, m, access{kind: "Load", h: 1, i: 3}, 0, false)
	gives(t, m, access{kind: "Load", h: 3, i: 0}, 0, false)
	gives(t, m, access{kind: "Fetch", h: 1, i: 2, op: word.Add, mask: all, v: 5}, 7, true)
	gives(t, m, access{kind: "Cas", h: 1, i: 2, mask: all, old: 12, v: 9}, 12, true)
	holds(t, m, 1, 2, 9)
	gives(t, m, access{kind: "Fetch", h: 1, i: 2, op: word.Add, mask: 0xFF, v: 250}, 9, true)
	holds(t, m, 1, 2, 3)
	frees(t, m, 1, true)
	frees(t, m, 1, false)
	makes(t, m, 3, 3, api.OK)
	gives(t, m, access{kind: "Load", h: 1, i: 2}, 0, false)
	isState(t, m, state{0, 2, 10, 3})
}

// P8.1, rooms within the limits, at their ends, and far away.
func TestNew(t *testing.T) {
	for _, x := range []struct{ room, want int }{
		{math.MinInt, 0}, {-1 << 32, 0}, {-65536, 0}, {-1, 0}, {0, 0}, {1, 1}, {2, 2}, {100, 100},
		{65535, 65535}, {65536, 65536}, {65537, 65536}, {1 << 32, 65536}, {1<<32 + 5, 65536}, {math.MaxInt, 65536},
	} {
		m := smem.New(x.room)
		isState(t, m, state{x.want, 0, 0, 0})
		for h := -1; h <= 2; h++ {
			isSize(t, m, h, 0)
		}
		if x.want < 65536 {
			makes(t, m, x.want+1, 0, api.ErrMem)
		}
		if x.want > 0 {
			makes(t, m, x.want, 1, api.OK)
			isState(t, m, state{0, 1, 0, 0})
		}
	}
}

// P8.2, how many words may be made: ErrArg and ErrMem, and that these take nothing of the room and no handle.
func TestMake(t *testing.T) {
	for _, room := range []int{0, 1, 2, 7, 65535, 65536} {
		m := smem.New(room)
		for _, words := range []int{math.MinInt, -1 << 32, -2, -1, 0, 65537, 1 << 17, 1<<32 + 1, math.MaxInt} {
			makes(t, m, words, 0, api.ErrArg)
		}
		for _, words := range []int{room + 1, room + 2, 65535, 65536} {
			if words > room && words <= 65536 {
				makes(t, m, words, 0, api.ErrMem)
			}
		}
		isState(t, m, state{room, 0, 0, 0})
		if room == 0 {
			continue
		}
		makes(t, m, room, 1, api.OK)
		makes(t, m, 1, 0, api.ErrMem)
		makes(t, m, 0, 0, api.ErrArg)
		makes(t, m, -1, 0, api.ErrArg)
		makes(t, m, 65536, 0, api.ErrMem)
		makes(t, m, 65537, 0, api.ErrArg)
		isSize(t, m, 1, room)
		isState(t, m, state{0, 1, 0, 0})
	}
}

// P8.2, ErrMem counts what is left, not what there was.
func TestMakeLeft(t *testing.T) {
	m := smem.New(10)
	makes(t, m, 4, 1, api.OK)
	makes(t, m, 7, 0, api.ErrMem)
	isState(t, m, state{6, 1, 0, 0})
	makes(t, m, 5, 2, api.OK)
	makes(t, m, 2, 0, api.ErrMem)
	makes(t, m, 1, 3, api.OK)
	isState(t, m, state{0, 3, 0, 0})
	isSize(t, m, 1, 4)
	isSize(t, m, 2, 5)
	isSize(t, m, 3, 1)
}

// P8.2, Free and Size of what is live, was live, and never was.
func TestFree(t *testing.T) {
	m := smem.New(10)
	makes(t, m, 4, 1, api.OK)
	makes(t, m, 3, 2, api.OK)
	for _, h := range []int{math.MinInt, -2, -1, 0, 3, 4, 1<<32 + 1, math.MaxInt} {
		frees(t, m, h, false)
		isSize(t, m, h, 0)
	}
	isState(t, m, state{3, 2, 0, 0})
	frees(t, m, 1, true)
	isState(t, m, state{7, 1, 0, 0})
	isSize(t, m, 1, 0)
	isSize(t, m, 2, 3)
	frees(t, m, 1, false)
	isState(t, m, state{7, 1, 0, 0})
	frees(t, m, 2, true)
	frees(t, m, 2, false)
	isState(t, m, state{10, 0, 0, 0})
	isSize(t, m, 2, 0)
}

// P8.2, handles are 1, 2, 3 and so on, whatever was freed or could not be made.
func TestHandles(t *testing.T) {
	m := smem.New(3)
	makes(t, m, 1, 1, api.OK)
	makes(t, m, 1, 2, api.OK)
	makes(t, m, 1, 3, api.OK)
	makes(t, m, 1, 0, api.ErrMem)
	frees(t, m, 3, true)
	makes(t, m, 2, 0, api.ErrMem)
	makes(t, m, 0, 0, api.ErrArg)
	makes(t, m, 1, 4, api.OK)
	frees(t, m, 1, true)
	frees(t, m, 2, true)
	frees(t, m, 4, true)
	for h := 5; h < 300; h++ {
		makes(t, m, 3, h, api.OK)
		frees(t, m, h, true)
		isSize(t, m, h-1, 0)
	}
	isState(t, m, state{3, 0, 0, 0})
}

// P8.2, a region is all 0, of words that were written and freed too.
func TestMakeOfFreedWords(t *testing.T) {
	m := smem.New(6)
	fill := func(h, words int) {
		for i := range words {
			holds(t, m, h, i, 0)
			m.Store(h, i, all)
		}
	}
	makes(t, m, 4, 1, api.OK)
	makes(t, m, 2, 2, api.OK)
	fill(1, 4)
	fill(2, 2)
	frees(t, m, 1, true)
	makes(t, m, 3, 3, api.OK)
	fill(3, 3)
	frees(t, m, 2, true)
	makes(t, m, 3, 4, api.OK)
	fill(4, 3)
	frees(t, m, 3, true)
	frees(t, m, 4, true)
	makes(t, m, 6, 5, api.OK)
	fill(5, 6)
}

// P8.3, Load, Store and Mask.
func TestLoadStoreMask(t *testing.T) {
	m := smem.New(3)
	m.Make(3)
	for _, v := range []uint64{0, 1, all, 1 << 63, 0x1122334455667788} {
		for i := range 3 {
			gives(t, m, access{kind: "Store", h: 1, i: i, v: v}, 0, true)
			holds(t, m, 1, i, v)
			holds(t, m, 1, i, v)
		}
	}
	const w = 0x1122334455667788
	for _, x := range []struct{ mask, v, want uint64 }{
		{0, all, w}, {all, 5, 5}, {all, 0, 0}, {0xFF, 0, 0x1122334455667700}, {0xFF, 0xABCD, 0x11223344556677CD},
		{0xFF << 56, all, 0xFF22334455667788}, {0xFFFFFFFF << 32, 0, 0x55667788}, {0xFFFFFFFF, 0, 0x1122334400000000},
		{1 << 63, 1 << 63, 0x9122334455667788}, {1, all, w | 1}, {0xF0F0, 0x1234, 0x1122334455661738},
	} {
		m.Store(1, 1, w)
		gives(t, m, access{kind: "Mask", h: 1, i: 1, mask: x.mask, v: x.v}, 0, true)
		holds(t, m, 1, 1, x.want)
	}
}

// P8.4, Fetch with each operation, masks of nought, of all bits and of some, and sums that carry out of the mask.
func TestFetch(t *testing.T) {
	m := smem.New(3)
	m.Make(3)
	const w = 0x1122334455667788
	for _, x := range []struct {
		op            int
		mask, v, want uint64
	}{
		{word.Add, all, 1, w + 1}, {word.Add, all, all, w - 1}, {word.Add, 0, all, w},
		{word.Add, 0xFF, 0x77, 0x11223344556677FF}, {word.Add, 0xFF, 0x78, 0x1122334455667700}, {word.Add, 0xFF, 0xFF, 0x1122334455667787},
		{word.Add, 0xFF, 0x1100, w},                                     // no bit of the number is in the mask
		{word.Add, 0xFF, 0x1101, 0x1122334455667789},                    // some are not
		{word.Add, 0xFF00, 0x8900, 0x1122334455660088},                  // carries out of it upwards
		{word.Add, 0xFFFFFFFF, 0xAA998878, 0x1122334400000000},          // likewise
		{word.Add, 0xFFFFFFFF << 32, 0xEEDDCCBC << 32, 0x55667788},      // likewise, out of the word
		{word.Add, 0x0F0F, 0x0108, 0x1122334455667880},                  // carries between the mask's parts are lost
		{word.Add, 1 << 63, 1 << 63, 0x9122334455667788},                // the highest bit
		{word.Or, 0xFFFF, 0xFF00FF, 0x11223344556677FF},                 // bits without the mask are not taken
		{word.Or, all, 0, w},                                            // nothing
		{word.Or, all, all, all},                                        // everything
		{word.Or, 0, all, w},                                            // a mask of nought
		{word.And, 0xFF, 0, 0x1122334455667700},                         // bits without the mask remain
		{word.And, all, 0xFFFF0000, 0x55660000},                         // all bits
		{word.And, 0, 0, w},                                             // a mask of nought
		{word.And, 0xF0, 0xFFFFFFFFFFFFFF0F, 0x1122334455667708},        // the mask alone
		{word.Xor, all, w, 0}, {word.Xor, all, all, 0xEEDDCCBBAA998877}, // all bits
		{word.Xor, 0xFF00, 0xFFFF, 0x1122334455668888}, // some
		{word.Xor, 0, all, w},                          // none
	} {
		m.Store(1, 1, w)
		gives(t, m, access{kind: "Fetch", h: 1, i: 1, op: x.op, mask: x.mask, v: x.v}, w, true)
		holds(t, m, 1, 1, x.want)
	}
	holds(t, m, 1, 0, 0)
	holds(t, m, 1, 2, 0)
	if m.Bad() != 0 {
		t.Error("bad ones:", m.Bad())
	}
}

// P8.4, Fetch with operations that it does not take, and with what is none.
func TestFetchOfOthers(t *testing.T) {
	m := smem.New(1)
	m.Make(1)
	m.Store(1, 0, 6)
	ops := []int{
		word.Sub, word.Mul, word.Div, word.Lsh, word.Rsh, word.Neg, word.Mod, word.Mov, word.Arsh,
		math.MinInt, math.MaxInt, 1 << 32, 1<<32 + word.Or, math.MinInt + word.And, -word.Xor, 256, 1, 0x41, 0x51, 0xA1, 0xE0, 0xF0, 0xE1, 0xF1,
	}
	for op := -300; op <= 300; op++ {
		if op != 0x00 && op != 0x40 && op != 0x50 && op != 0xA0 {
			ops = append(ops, op)
		}
	}
	for n, op := range ops {
		for _, mask := range []uint64{all, 0xFF, 0} {
			gives(t, m, access{kind: "Fetch", h: 1, op: op, mask: mask, v: 2}, 0, false)
		}
		isState(t, m, state{0, 1, 1 + 4*n + 3, 3*n + 3})
		holds(t, m, 1, 0, 6)
	}
}

// P8.4, Swap.
func TestSwap(t *testing.T) {
	m := smem.New(2)
	m.Make(2)
	const w = 0x1122334455667788
	for _, x := range []struct{ mask, v, want uint64 }{
		{all, 0, 0}, {all, 5, 5}, {0, all, w}, {0xFFFF0000, 0, 0x1122334400007788}, {0xFF, 0xABCD, 0x11223344556677CD}, {0xFFFFFFFF << 32, all, 0xFFFFFFFF55667788},
	} {
		m.Store(1, 1, w)
		gives(t, m, access{kind: "Swap", h: 1, i: 1, mask: x.mask, v: x.v}, w, true)
		holds(t, m, 1, 1, x.want)
		holds(t, m, 1, 0, 0)
	}
}

// P8.4, Cas at an old value that is the same, differs inside the mask, and only outside it: a word that is not as thought is no bad access.
func TestCas(t *testing.T) {
	m := smem.New(2)
	m.Make(2)
	const w = 0x1122334455667788
	for _, x := range []struct{ mask, old, v, want uint64 }{
		{all, w, 5, 5}, {all, w, w, w}, {all, w, 0, 0}, {all, w ^ 1, 5, w}, {all, w ^ 1<<63, 5, w}, {all, 0, 5, w}, {all, ^uint64(w), 5, w},
		{0xFF, 0x88, 6, 0x1122334455667706}, {0xFF, w, 6, 0x1122334455667706}, {0xFF, 0xFFFFFFFFFFFFFF88, 0x9906, 0x1122334455667706},
		{0xFF, 0x89, 6, w}, {0xFF, 0x08, 6, w}, {0xFF, w ^ 0x80, 6, w}, {0xFF, 0x7788 ^ 0x100, 6, 0x1122334455667706},
		{0xFFFFFFFF << 32, 0x1122334400000000, 0xABCDEF0100000000, 0xABCDEF0155667788}, {0xFFFFFFFF << 32, 0x1122334500000000, 0, w},
		{0, 0, all, w}, {0, w, all, w}, {0, all, all, w}, {1 << 63, 0, all, 0x9122334455667788}, {1 << 63, 1 << 63, 0, w},
	} {
		m.Store(1, 1, w)
		gives(t, m, access{kind: "Cas", h: 1, i: 1, mask: x.mask, old: x.old, v: x.v}, w, true)
		holds(t, m, 1, 1, x.want)
		holds(t, m, 1, 0, 0)
	}
	if m.Bad() != 0 {
		t.Error("bad ones:", m.Bad())
	}
}

// The definitions' good and bad accesses: each kind at each place where there is no word, and at the first and the last one.
func TestPlaces(t *testing.T) {
	for _, kind := range kinds {
		m := smem.New(20)
		m.Make(3)
		m.Make(2)
		m.Make(4)
		m.Make(1)
		m.Free(2)
		for i := range 3 {
			m.Store(1, i, uint64(10+i))
		}
		for i := range 4 {
			m.Store(3, i, uint64(30+i))
		}
		m.Store(4, 0, 40)
		count, bad := m.Count(), 0
		for _, h := range []int{math.MinInt, -1<<32 + 1, -1, 0, 1, 2, 3, 4, 5, 6, 1<<32 + 1, math.MaxInt} {
			for _, i := range []int{math.MinInt, -1 << 32, -4, -3, -2, -1, 0, 1, 2, 3, 4, 5, 20, 1 << 32, 1<<32 + 1, math.MaxInt} {
				a := access{kind: kind, h: h, i: i, op: word.Add, mask: all, v: 100, old: 7}
				size := map[int]int{1: 3, 3: 4, 4: 1}[h]
				if good := i >= 0 && i < size; !good {
					gives(t, m, a, 0, false)
					bad++
				} else if kind == "Store" || kind == "Mask" {
					gives(t, m, a, 0, true)
				} else {
					gives(t, m, a, uint64(10*h+i), true)
				}
				count++
				isState(t, m, state{12, 3, count, bad})
			}
		}
		after := map[string]uint64{"Store": 0, "Mask": 0, "Swap": 0, "Fetch": 1, "Load": 1, "Cas": 1}[kind]
		more := map[string]uint64{"Store": 100, "Mask": 100, "Swap": 100, "Fetch": 100}[kind]
		for h, size := range map[int]int{1: 3, 3: 4, 4: 1} {
			for i := range size {
				holds(t, m, h, i, after*uint64(10*h+i)+more)
			}
		}
	}
}

// P8.5, what is an access, good or bad, and what is none.
func TestCount(t *testing.T) {
	m := smem.New(4)
	want := state{room: 4}
	for _, h := range []int{1, 0} {
		if h == 1 {
			makes(t, m, 2, 1, api.OK)
			want.room, want.live = 2, 1
		}
		for _, kind := range kinds {
			access{kind: kind, h: h, i: 1, op: word.Or, mask: all}.on(m)
			want.count++
			if h == 0 {
				want.bad++
			}
			isState(t, m, want)
			isState(t, m, want)
		}
	}
	makes(t, m, 3, 0, api.ErrMem)
	makes(t, m, 0, 0, api.ErrArg)
	frees(t, m, 7, false)
	isSize(t, m, 1, 2)
	isSize(t, m, 7, 0)
	isState(t, m, want)
	frees(t, m, 1, true)
	isState(t, m, state{4, 0, want.count, want.bad})
}
