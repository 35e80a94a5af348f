package smem

import "crossbar/word"

// every is the mask of all bits.
const every = 1<<64 - 1

// Load is a word.
func (m *Mem) Load(h, i int) (uint64, bool) {
	return m.access(h, i, func(w uint64) (uint64, bool) { return w, true })
}

// Swap lays bits of a word; what it was.
func (m *Mem) Swap(h, i int, mask, v uint64) (uint64, bool) {
	return m.access(h, i, func(w uint64) (uint64, bool) { return under(mask, w, v), true })
}

// Mask lays bits of a word.
func (m *Mem) Mask(h, i int, mask, v uint64) bool {
	_, ok := m.Swap(h, i, mask, v)
	return ok
}

// Store lays a word.
func (m *Mem) Store(h, i int, v uint64) bool { return m.Mask(h, i, every, v) }

// Fetch lets an operation change bits of a word; what it was.
func (m *Mem) Fetch(h, i, op int, mask, v uint64) (uint64, bool) {
	return m.access(h, i, func(w uint64) (uint64, bool) {
		switch op {
		case word.Add, word.And, word.Or, word.Xor:
		default:
			return 0, false
		}
		made, ok := word.Alu(op, true, w&mask, v&mask)
		// What carries out of the mask is lost.
		return under(mask, w, made), ok
	})
}

// Cas lays bits of a word, if they are as they are thought to be; what it was.
func (m *Mem) Cas(h, i int, mask, old, v uint64) (uint64, bool) {
	return m.access(h, i, func(w uint64) (uint64, bool) {
		if (w^old)&mask != 0 {
			return w, true
		}
		return under(mask, w, v), true
	})
}

// access counts an access and, if it is good, lets it make a word anew, which is to tell whether it may; what the word was.
func (m *Mem) access(h, i int, anew func(w uint64) (uint64, bool)) (uint64, bool) {
	m.count++
	words := m.regions[h]
	if i >= 0 && i < len(words) {
		was := words[i]
		if now, ok := anew(was); ok {
			words[i] = now
			return was, true
		}
	}
	m.bad++
	return 0, false
}

// under is a word that gets a new one's bits within the mask, and keeps its others.
func under(mask, w, v uint64) uint64 { return w&^mask | v&mask }
