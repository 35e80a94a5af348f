package tnum_test

import (
	"slices"
	"testing"

	"crossbar/api"
	"crossbar/tnum"
	"crossbar/word"
)

// places are where the bits of small tnums lie in 64: at an end, round the middle, strewn.
var places = [][]int{{0, 1, 2, 3}, {60, 61, 62, 63}, {30, 31, 32, 33}, {0, 31, 32, 63}, {1, 2, 62, 63}}

// grounds are the known bits beside those, of two tnums.
var grounds = [][2]uint64{{0, 0}, {all, 1}, {all, all}, {0, all}, {0x5555555555555555, 0xAAAAAAAAAAAAAAAB}}

// laid is a number's lowest bits at these places, and those of ground at all others.
func laid(v uint64, place []int, ground uint64) uint64 {
	for i, at := range place {
		ground = ground&^(1<<at) | v>>i&1<<at
	}
	return ground
}

// small are all tnums whose bits at these places are any, and all others those of ground.
func small(place []int, ground uint64) []api.Tnum {
	var out []api.Tnum
	for v := range uint64(1) << len(place) {
		for m := range uint64(1) << len(place) {
			if v&m == 0 {
				out = append(out, tn(laid(v, place, ground&^laid(m, place, 0)), laid(m, place, 0)))
			}
		}
	}
	return out
}

// members are all numbers of a tnum, from the least on.
func members(a api.Tnum) []uint64 {
	out := []uint64{a.Value &^ a.Mask}
	for v := a.Value &^ a.Mask; v != a.Value|a.Mask; {
		// The bits of Mask count up, those between them carry on.
		v = ((v|^a.Mask)+1)&a.Mask | a.Value&^a.Mask
		out = append(out, v)
	}
	return out
}

// hull is the tnum whose known bits are those that all numbers have alike; there is at least one.
func hull(numbers []uint64) api.Tnum {
	low, high := uint64(all), uint64(0)
	for _, v := range numbers {
		low, high = low&v, high|v
	}
	return tn(low, low^high)
}

// operations are word's of two numbers, and the functions of tnums that stand for them.
var operations = []struct {
	name  string
	op    int
	f     func(a, b api.Tnum) api.Tnum
	exact bool // no bit is known to all results that is not known of theirs
}{
	{"And", word.And, tnum.And, true},
	{"Or", word.Or, tnum.Or, true},
	{"Xor", word.Xor, tnum.Xor, true},
	{"Add", word.Add, tnum.Add, true},
	{"Sub", word.Sub, tnum.Sub, true},
	{"Mul", word.Mul, tnum.Mul, false},
}

// alu is word's operation on each two numbers.
func alu(op int, wide bool, a, b []uint64) []uint64 {
	var out []uint64
	for _, x := range a {
		for _, y := range b {
			v, _ := word.Alu(op, wide, x, y)
			out = append(out, v)
		}
	}
	return out
}

// P3.2, P3.3 and P3.7, held against all numbers of small tnums: no result is missed, and every bit is known that can be.
func TestOperationsOfSmall(t *testing.T) {
	for _, place := range places {
		for _, ground := range grounds {
			for _, a := range small(place, ground[0]) {
				for _, b := range small(place, ground[1]) {
					x, y := members(a), members(b)
					for _, o := range operations {
						got, want := o.f(a, b), hull(alu(o.op, true, x, y))
						if o.exact && got != want || !tnum.Within(want, got) {
							t.Fatalf("%s(%x, %x): %x, the results have %x", o.name, a, b, got, want)
						}
						cut, narrow := tnum.Cut(got), hull(alu(o.op, false, x, y))
						if !tnum.Within(narrow, cut) {
							t.Fatalf("Cut of %s(%x, %x): %x, the results of 32 bits have %x", o.name, a, b, cut, narrow)
						}
					}
				}
			}
		}
	}
}

// P3.5 and P3.7 likewise: shifts and Cut, all of whose bits can be told.
func TestShiftsOfSmall(t *testing.T) {
	ops := []int{word.Lsh, word.Rsh, word.Arsh}
	for _, place := range places {
		for _, ground := range grounds {
			for _, a := range small(place, ground[0]) {
				x := members(a)
				for n := -66; n <= 130; n++ {
					for i, o := range shifts {
						if got, want := o.f(a, n), hull(alu(ops[i], true, x, []uint64{uint64(n)})); got != want {
							t.Fatalf("%s(%x, %d): %x, the results have %x", o.name, a, n, got, want)
						}
					}
				}
				if got, want := tnum.Cut(a), hull(alu(word.Mov, false, []uint64{0}, x)); got != want {
					t.Fatalf("Cut(%x): %x, the results have %x", a, got, want)
				}
			}
		}
	}
}

// P3.1, P3.6 and P3.8: In, Within, Join and Meet of small tnums, held against all their numbers.
func TestSetsOfSmall(t *testing.T) {
	for _, place := range places {
		ground := uint64(0x0F0F0F0F0F0F0F0F)
		list := small(place, ground)
		for _, a := range list {
			x := members(a)
			for v := range uint64(1) << len(place) {
				if w := laid(v, place, ground); tnum.In(a, w) != slices.Contains(x, w) {
					t.Fatalf("In(%x, %#x): %v", a, w, tnum.In(a, w))
				}
			}
			for _, b := range list {
				setsOf(t, a, b, x, members(b))
			}
		}
	}
}

// setsOf holds Within, Join and Meet of two tnums against their numbers.
func setsOf(t *testing.T, a, b api.Tnum, x, y []uint64) {
	t.Helper()
	var common []uint64
	for _, v := range x {
		if slices.Contains(y, v) {
			common = append(common, v)
		}
	}
	if got := tnum.Within(a, b); got != (len(common) == len(x)) {
		t.Fatalf("Within(%x, %x): %v", a, b, got)
	}
	if got, want := tnum.Join(a, b), hull(slices.Concat(x, y)); got != want {
		t.Fatalf("Join(%x, %x): %x, not %x", a, b, got, want)
	}
	got, is := tnum.Meet(a, b)
	if is != (len(common) > 0) || !is && got != tn(0, 0) || is && !slices.Equal(members(got), common) {
		t.Fatalf("Meet(%x, %x): %x, %v, in common are %x", a, b, got, is, common)
	}
}

// P3.8: what has two within it has their Join within it.
func TestJoinIsLeast(t *testing.T) {
	list := small([]int{0, 32, 63}, 1<<40)
	for _, a := range list {
		for _, b := range list {
			join := tnum.Join(a, b)
			if !tnum.Within(a, join) || !tnum.Within(b, join) {
				t.Fatalf("Join(%x, %x): %x, and one is not within it", a, b, join)
			}
			for _, c := range list {
				if tnum.Within(a, c) && tnum.Within(b, c) && !tnum.Within(join, c) {
					t.Fatalf("Join(%x, %x): %x, though %x has both within it", a, b, join, c)
				}
			}
		}
	}
}

// some are a few numbers of a tnum of any size: its ends, and those with parts of its unknown bits.
func some(a api.Tnum) []uint64 {
	var out []uint64
	for _, m := range []uint64{0, all, 1, top, 1<<32 - 1, all ^ (1<<32 - 1), 0x5555555555555555, 0x0123456789ABCDEF} {
		out = append(out, a.Value&^a.Mask|m&a.Mask)
	}
	return out
}

// P3.7, of tnums of 64 bits.
func TestSoundness(t *testing.T) {
	list := assorted()
	for _, a := range list {
		for _, b := range list {
			x, y := some(a), some(b)
			for _, o := range operations {
				got := o.f(a, b)
				for _, v := range alu(o.op, true, x, y) {
					if !tnum.In(got, v) {
						t.Fatalf("%s(%x, %x): %x, and not %#x", o.name, a, b, got, v)
					}
				}
				for _, v := range alu(o.op, false, x, y) {
					if !tnum.In(tnum.Cut(got), v) {
						t.Fatalf("Cut of %s(%x, %x): %x, and not %#x", o.name, a, b, tnum.Cut(got), v)
					}
				}
			}
		}
	}
}
