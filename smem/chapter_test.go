package smem_test

import (
	"math"

	"crossbar/api"
	"crossbar/smem"
	"crossbar/word"
)

// all is the mask of all bits.
const all uint64 = math.MaxUint64

// place is a word's: the region's handle and the index.
type place struct{ h, i int }

// bits is a word, bit by bit.
type bits [64]bool

func bitsOf(w uint64) bits {
	var b bits
	for n := range b {
		b[n] = w>>n&1 != 0
	}
	return b
}

func (b bits) number() uint64 {
	var w uint64
	for n, one := range b {
		if one {
			w |= 1 << n
		}
	}
	return w
}

// within is a word with no bits but those of the mask.
func within(mask, w uint64) uint64 {
	m, b := bitsOf(mask), bitsOf(w)
	for n := range b {
		b[n] = b[n] && m[n]
	}
	return b.number()
}

// laid is the chapter's "under a mask".
func laid(mask, w, v uint64) uint64 {
	m, b, c := bitsOf(mask), bitsOf(w), bitsOf(v)
	for n := range b {
		if m[n] {
			b[n] = c[n]
		}
	}
	return b.number()
}

// combined is what the four operations make of two numbers.
func combined(op int, v, w uint64) (uint64, bool) {
	a, b := bitsOf(v), bitsOf(w)
	var carry bool
	var c bits
	for n := range c {
		switch op {
		case word.And:
			c[n] = a[n] && b[n]
		case word.Or:
			c[n] = a[n] || b[n]
		case word.Xor:
			c[n] = a[n] != b[n]
		case word.Add:
			c[n] = (a[n] != b[n]) != carry
			carry = a[n] && b[n] || carry && (a[n] || b[n])
		default:
			return 0, false
		}
	}
	return c.number(), true
}

// plain is a memory by the chapter's words: all words that were ever made stand in one map, and a size of 0 is that of a region that was freed.
type plain struct {
	given int
	sizes []int // of the handles 1, 2, 3 and so on
	words map[place]uint64
	count int
	bad   int
}

func newPlain(room int) *plain {
	switch {
	case room < 0:
		room = 0
	case room > 65536:
		room = 65536
	}
	return &plain{given: room, words: map[place]uint64{}}
}

func (p *plain) size(h int) int {
	if h < 1 || h > len(p.sizes) {
		return 0
	}
	return p.sizes[h-1]
}

func (p *plain) room() int {
	left := p.given
	for _, n := range p.sizes {
		left -= n
	}
	return left
}

func (p *plain) live() int {
	n := 0
	for _, size := range p.sizes {
		if size > 0 {
			n++
		}
	}
	return n
}

func (p *plain) make(words int) (int, api.Errno) {
	switch {
	case words < 1 || words > 65536:
		return 0, api.ErrArg
	case words > p.room():
		return 0, api.ErrMem
	}
	p.sizes = append(p.sizes, words)
	return len(p.sizes), api.OK
}

func (p *plain) free(h int) bool {
	if p.size(h) == 0 {
		return false
	}
	p.sizes[h-1] = 0
	return true
}

// an access of the one or the other kind, with all that it may be given.
type access struct {
	kind         string
	h, i, op     int
	mask, old, v uint64
}

var kinds = []string{"Load", "Store", "Mask", "Fetch", "Swap", "Cas"}

// on makes the access; of Store and Mask, which tell no word, the first result is 0.
func (a access) on(m *smem.Mem) (uint64, bool) {
	switch a.kind {
	case "Load":
		return m.Load(a.h, a.i)
	case "Store":
		return 0, m.Store(a.h, a.i, a.v)
	case "Mask":
		return 0, m.Mask(a.h, a.i, a.mask, a.v)
	case "Fetch":
		return m.Fetch(a.h, a.i, a.op, a.mask, a.v)
	case "Swap":
		return m.Swap(a.h, a.i, a.mask, a.v)
	case "Cas":
		return m.Cas(a.h, a.i, a.mask, a.old, a.v)
	}
	panic("no access: " + a.kind)
}

// access is P8.3 and P8.4.
func (p *plain) access(a access) (uint64, bool) {
	p.count++
	at := place{a.h, a.i}
	w := p.words[at]
	made, may := combined(a.op, within(a.mask, w), within(a.mask, a.v))
	if a.i < 0 || a.i >= p.size(a.h) || a.kind == "Fetch" && !may {
		p.bad++
		return 0, false
	}
	switch a.kind {
	case "Load":
		return w, true
	case "Store":
		p.words[at] = a.v
		return 0, true
	case "Mask":
		p.words[at] = laid(a.mask, w, a.v)
		return 0, true
	case "Fetch":
		p.words[at] = laid(a.mask, w, made)
	case "Swap":
		p.words[at] = laid(a.mask, w, a.v)
	case "Cas":
		if within(a.mask, w) == within(a.mask, a.old) {
			p.words[at] = laid(a.mask, w, a.v)
		}
	}
	return w, true
}

// dice are numbers that look assorted, the same from the same beginning.
type dice uint64

func (d *dice) next() uint64 {
	*d = *d*6364136223846793005 + 1442695040888963407
	return uint64(*d) >> 33
}

func (d *dice) upTo(n int) int { return int(d.next() % uint64(n)) }

// word is a number with all kinds of bits: few, many, those of some bytes, and at the ends.
func (d *dice) word() uint64 {
	w := d.next()<<33 ^ d.next()<<11 ^ d.next()
	switch d.upTo(8) {
	case 0:
		return 0
	case 1:
		return all
	case 2:
		return 0xFF << (8 * d.upTo(8))
	case 3:
		return 0xFFFFFFFF << (32 * d.upTo(2))
	case 4:
		return w >> d.upTo(64)
	case 5:
		return 1 << d.upTo(64)
	}
	return w
}
