package flow_test

import (
	"math"
	"slices"
	"testing"

	"crossbar/api"
	"crossbar/flow"
)

// hold holds a program against the chapter: P6.1 to P6.4; it gives Targets' error.
func hold(t *testing.T, l []api.Insn) api.Errno {
	t.Helper()
	places := flow.Places(l)
	at := cells(l)
	for i, p := range places {
		if at[p] != i {
			t.Fatalf("Places(%+v): %v", l, places)
		}
	}
	want, wantNo := targets(l)
	got, no := flow.Targets(l)
	if no != wantNo || len(got) != len(want) || !slices.Equal(got, want) {
		t.Fatalf("Targets(%+v): %v, %d, not %v, %d", l, got, no, want, wantNo)
	}
	if no == api.OK {
		holdNext(t, l, got)
	}
	return no
}

// holdNext is hold of P6.3 and P6.4.
func holdNext(t *testing.T, l []api.Insn, targets []int) {
	t.Helper()
	led := make([]bool, len(l))
	for i := range l {
		got := flow.Next(l, targets, i)
		if want := next(l, targets, i); !slices.Equal(got, want) {
			t.Fatalf("Next(%+v, %d): %v, not %v", l, i, got, want)
		}
		if (len(got) == 0) != (l[i].Op == exitCode) {
			t.Fatalf("Next(%+v, %d): %v", l, i, got)
		}
		for _, n := range got {
			if n < 0 || n >= len(l) {
				t.Fatalf("Next(%+v, %d): %v", l, i, got)
			}
			led[n] = true
		}
	}
	// All are reached, so any of them counts as one that leads to another.
	if slices.Contains(led[1:], false) {
		t.Fatalf("%+v: nothing leads to some: %v", l, led)
	}
}

// P6.1 to P6.4, all programs of up to four instructions of all kinds, with jumps to all places and beyond.
func TestAllShort(t *testing.T) {
	kinds := list(mov, wide, call, exit)
	for off := -6; off <= 5; off++ {
		kinds = append(kinds, ja(off), jeq(off))
	}
	counts := map[api.Errno]int{}
	l := make([]api.Insn, 0, 4)
	var grow func()
	grow = func() {
		counts[hold(t, l)]++
		if len(l) == cap(l) {
			return
		}
		for _, x := range kinds {
			l = append(l, x)
			grow()
			l = l[:len(l)-1]
		}
	}
	grow()
	for _, no := range []api.Errno{api.OK, api.ErrJump, api.ErrEnd, api.ErrDead} {
		if counts[no] < 1000 {
			t.Errorf("the programs are too few: %v", counts)
		}
	}
}

// P6.1 to P6.4, programs of any length with jumps to anywhere.
func TestAllLong(t *testing.T) {
	counts := map[api.Errno]int{}
	long := map[api.Errno]int{}
	for seed := range 3000 {
		d := dice(seed)
		n := 1 + d.upTo(16)
		if seed%4 == 0 {
			n = 1 + d.upTo(api.MaxInsns)
		}
		stray := 0
		if seed%3 == 0 {
			stray = 40
		}
		no := hold(t, d.program(n, stray))
		counts[no]++
		if n > 100 {
			long[no]++
		}
	}
	for _, no := range []api.Errno{api.OK, api.ErrJump, api.ErrEnd, api.ErrDead} {
		if counts[no] < 100 || long[no] < 10 {
			t.Errorf("the programs are too few: %v, %v", counts, long)
		}
	}
}

// R3: what is given in stays as it is, the room behind a slice's end too.
func TestNothingIsChanged(t *testing.T) {
	for _, l := range [][]api.Insn{
		list(wide, jeq(-3), ja(0), exit),
		list(jeq(1), wide, exit),
		list(mov, jeq(-2)),
		list(exit, exit),
	} {
		room := slices.Grow(slices.Clone(l), 4)
		behind := room[len(l):cap(room)]
		for i := range behind {
			behind[i] = jeq(77)
		}
		before := slices.Clone(room[:cap(room)])
		flow.Places(room)
		if t1, no := flow.Targets(room); no == api.OK {
			numbers := append(slices.Grow(t1, 4), 77, 78, 79, 80)
			kept := slices.Clone(numbers)
			for i := range room {
				flow.Next(room, numbers[:len(t1)], i)
			}
			if !slices.Equal(numbers, kept) {
				t.Errorf("%+v: targets are changed: %v, not %v", l, numbers, kept)
			}
		}
		if !slices.Equal(room[:cap(room)], before) {
			t.Errorf("%+v: instructions are changed: %+v", l, room[:cap(room)])
		}
	}
}

// R3: what is returned is not shared with what was given in, nor with what was returned ahead.
func TestNothingIsShared(t *testing.T) {
	l := list(wide, jeq(-3), ja(0), exit)
	want := []int{-1, 0, 3, -1}
	first, _ := flow.Targets(l)
	spoil(first)
	second, no := flow.Targets(l)
	if no != api.OK || !slices.Equal(second, want) {
		t.Fatalf("Targets: %v, %d", second, no)
	}
	for i, x := range [][]int{{1}, {2, 0}, {3}, nil} {
		for range 2 {
			got := flow.Next(l, second, i)
			if !slices.Equal(got, x) {
				t.Errorf("Next of %d: %v, not %v", i, got, x)
			}
			spoil(got)
			if !slices.Equal(second, want) {
				t.Fatalf("Next of %d is a piece of the targets", i)
			}
		}
	}
	spoil(flow.Places(l))
	if got := flow.Places(l); !slices.Equal(got, []int{0, 2, 3, 4}) {
		t.Errorf("Places: %v", got)
	}
	l[1] = mov
	if !slices.Equal(second, want) {
		t.Errorf("the targets go with the list: %v", second)
	}
}

// spoil overwrites a list, and the room behind its end.
func spoil(l []int) {
	l = l[:cap(l)]
	for i := range l {
		l[i] = 99
	}
}

// Of these nothing is promised but that each call ends.
func TestWrongArguments(t *testing.T) {
	ends := []int{math.MinInt, math.MinInt + 1, -1 << 31, -257, -1, 4, 257, 1 << 31, math.MaxInt - 1, math.MaxInt}
	l := list(mov, jeq(0), ja(0), exit)
	for _, i := range ends {
		for _, targets := range [][]int{nil, {}, {-1}, {-1, 2, 3, -1}, slices.Repeat([]int{-1}, 300)} {
			if got := flow.Next(l, targets, i); got != nil {
				t.Errorf("Next(%v, %d): %v", targets, i, got)
			}
		}
	}
	for i := range l {
		flow.Next(nil, nil, i)
		flow.Next(l, nil, i)
		flow.Next(l, ends[:i], i)
		flow.Next(l, ends, i)
	}
	for _, off := range ends {
		for _, op := range []int{-1, 0x00, 0x05, 0x06, 0x0D, 0x15, 0x86, 0x8D, 0x96, 0x9D, 0x105, math.MinInt, math.MaxInt} {
			x := api.Insn{Op: op, Dst: off, Src: off, Off: off, Imm: off}
			flow.Jumps(x)
			for _, m := range [][]api.Insn{list(x), list(x, exit), list(wide, x, exit), of(256, x), of(257, x)} {
				flow.Places(m)
				flow.Targets(m)
			}
		}
	}
}
