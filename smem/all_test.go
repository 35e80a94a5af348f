package smem_test

import (
	"testing"

	"crossbar/smem"
	"crossbar/word"
)

// assorted is an access at a word that is there, most of the time.
func assorted(d *dice, p *plain) access {
	a := access{kind: kinds[d.upTo(len(kinds))], mask: d.word(), old: d.word(), v: d.word()}
	a.op = []int{word.Add, word.And, word.Or, word.Xor}[d.upTo(4)]
	if d.upTo(10) == 0 {
		a.op = d.upTo(0x120) - 0x10
	}
	a.h = someHandle(d, p)
	a.i = d.upTo(p.size(a.h)+3) - 1
	if w := p.words[place{a.h, a.i}]; d.upTo(2) == 0 {
		a.old = w ^ d.word()&d.word()&d.word()
		if d.upTo(2) == 0 {
			a.old = w ^ d.word()&^a.mask
		}
	}
	return a
}

// someHandle is one of those that are live, if there are any, most of the time.
func someHandle(d *dice, p *plain) int {
	var live []int
	for h := range len(p.sizes) + 1 {
		if p.size(h) > 0 {
			live = append(live, h)
		}
	}
	if len(live) == 0 || d.upTo(8) == 0 {
		return d.upTo(len(p.sizes)+3) - 1
	}
	return live[d.upTo(len(live))]
}

// same holds a memory against the chapter's, each word of it: these accesses are counted, too.
func same(t *testing.T, m *smem.Mem, p *plain) {
	t.Helper()
	for h := -1; h <= len(p.sizes)+1; h++ {
		isSize(t, m, h, p.size(h))
		for i := range p.size(h) {
			a := access{kind: "Load", h: h, i: i}
			want, is := p.access(a)
			gives(t, m, a, want, is)
		}
	}
	isState(t, m, state{p.room(), p.live(), p.count, p.bad})
	sum := m.Room()
	for h := range len(p.sizes) + 1 {
		sum += m.Size(h)
	}
	if sum != p.given {
		t.Errorf("the room and all words: %d, not %d", sum, p.given)
	}
}

// step does one assorted thing to both, and holds what they tell.
func step(t *testing.T, d *dice, m *smem.Mem, p *plain) {
	t.Helper()
	switch d.upTo(12) {
	case 0:
		words := d.upTo(p.room()+4) - 1
		h, no := p.make(words)
		makes(t, m, words, h, no)
	case 1:
		h := someHandle(d, p)
		frees(t, m, h, p.free(h))
	default:
		a := assorted(d, p)
		want, is := p.access(a)
		gives(t, m, a, want, is)
	}
}

// P8.2 to P8.8, assorted calls of small memories; each word is looked at after each of them, so that one that changed is seen, whether meant or not.
func TestAssorted(t *testing.T) {
	for seed := range 300 {
		d := dice(seed)
		room := d.upTo(14)
		m, p := smem.New(room), newPlain(room)
		for range 80 {
			step(t, &d, m, p)
			same(t, m, p)
			if t.Failed() {
				t.Fatalf("the seed %d", seed)
			}
		}
	}
}

// P8.2 to P8.5, P8.8, many assorted calls of greater memories.
func TestAssortedLong(t *testing.T) {
	for seed, room := range []int{65536, 70000, 400, 60, 1, 0, -5} {
		d := dice(1000 + seed)
		m, p := smem.New(room), newPlain(room)
		for n := range 2000 {
			step(t, &d, m, p)
			if n%500 == 499 {
				same(t, m, p)
			}
			if t.Failed() {
				t.Fatalf("the room %d, the step %d", room, n)
			}
		}
		if n := m.Count() - m.Bad(); room > 1 && n < 500 {
			t.Errorf("the room %d: %d good accesses are too few", room, n)
		}
	}
}

// P8.6, two memories that are used by turns have nothing in common.
func TestTwo(t *testing.T) {
	for seed := range 100 {
		d := dice(5000 + seed)
		m, p := [2]*smem.Mem{smem.New(12), smem.New(12)}, [2]*plain{newPlain(12), newPlain(12)}
		for range 60 {
			i := d.upTo(2)
			step(t, &d, m[i], p[i])
			same(t, m[0], p[0])
			same(t, m[1], p[1])
			if t.Failed() {
				t.Fatalf("the seed %d", seed)
			}
		}
	}
}

// P8.6, no access changes a word next to its own, in the region and in those made before and after it; a Fetch and a Mask least of all by what carries out of the word.
func TestNeighbours(t *testing.T) {
	for _, kind := range kinds {
		for _, w := range []uint64{0, all, 1 << 63} {
			m := smem.New(9)
			for range 3 {
				m.Make(3)
			}
			for h := 1; h <= 3; h++ {
				for i := range 3 {
					m.Store(h, i, w)
				}
			}
			for _, op := range []int{word.Add, word.And, word.Or, word.Xor} {
				for _, v := range []uint64{0, 1, all, 1 << 63} {
					access{kind: kind, h: 2, i: 1, op: op, mask: all, old: w, v: v}.on(m)
				}
			}
			for h := 1; h <= 3; h++ {
				for i := range 3 {
					if h != 2 || i != 1 {
						holds(t, m, h, i, w)
					}
				}
			}
		}
	}
}

// P8.8, a Store is a Mask of all bits, and a Swap of all bits.
func TestStoreMaskSwap(t *testing.T) {
	var d dice
	for range 500 {
		w, v := d.word(), d.word()
		var now [3]uint64
		for n, kind := range []string{"Store", "Mask", "Swap"} {
			m := smem.New(1)
			m.Make(1)
			m.Store(1, 0, w)
			if _, ok := (access{kind: kind, h: 1, mask: all, v: v}).on(m); !ok {
				t.Error(kind)
			}
			now[n], _ = m.Load(1, 0)
			isState(t, m, state{0, 1, 3, 0})
		}
		if now != [3]uint64{v, v, v} {
			t.Errorf("%#x over %#x: %#x", v, w, now)
		}
	}
}

// P8.7, words remain through calls that do not concern them: others are made and freed round about.
func TestRemains(t *testing.T) {
	m := smem.New(100)
	kept, _ := m.Make(5)
	for i := range 5 {
		m.Store(kept, i, uint64(i)<<60|7)
	}
	for n := range 400 {
		h, _ := m.Make(1 + n%90)
		for i := range m.Size(h) {
			m.Store(h, i, all)
		}
		m.Store(h, m.Size(h), all)
		m.Store(h, -1, all)
		m.Free(h)
		m.Store(h, 0, all)
		for i := range 5 {
			holds(t, m, kept, i, uint64(i)<<60|7)
		}
	}
}

// P8.2, P8.5: as many regions as the room has words.
func TestManyRegions(t *testing.T) {
	m := smem.New(65536)
	for h := 1; h <= 65536; h++ {
		if got, no := m.Make(1); got != h || no != 0 || !m.Store(h, 0, uint64(h)) {
			t.Fatal(got, no)
		}
	}
	isState(t, m, state{0, 65536, 65536, 0})
	for h := 1; h <= 65536; h++ {
		if w, ok := m.Load(h, 0); w != uint64(h) || !ok || !m.Free(h) {
			t.Fatal(h, w, ok)
		}
	}
	isState(t, m, state{65536, 0, 131072, 0})
}
