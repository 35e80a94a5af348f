package flow_test

import (
	"slices"
	"testing"

	"crossbar/api"
	"crossbar/flow"
	"crossbar/insn"
)

// P6.1, every valid opcode, whatever the other fields are.
func TestJumps(t *testing.T) {
	counts := map[bool]int{}
	for op := range 256 {
		for _, off := range []int{-1 << 15, -1, 0, 1, 1<<15 - 1} {
			for _, imm := range []int{0, 1, 16, -1} {
				x := api.Insn{Op: op, Off: off, Imm: imm}
				if insn.Check(x) != api.OK {
					continue
				}
				want := op == jaCode || slices.Contains(comparingOps, op)
				counts[want]++
				if got := flow.Jumps(x); got != want {
					t.Errorf("Jumps(%+v): %v", x, got)
				}
			}
		}
	}
	if counts[true] < 45 || counts[false] < len(plainOps)+2 {
		t.Errorf("the opcodes are too few: %v", counts)
	}
	for _, x := range []struct {
		x    api.Insn
		want bool
	}{
		{ja(0), true}, {jeq(0), true}, {jlt32(-3), true}, {api.Insn{Op: 0xDE}, true}, {api.Insn{Op: 0x16, Imm: -1}, true},
		{call, false}, {exit, false}, {wide, false}, {mov, false}, {api.Insn{Op: 0x85}, false}, {api.Insn{Op: 0x84}, false}, {api.Insn{Op: 0x7B, Off: 5}, false},
	} {
		if got := flow.Jumps(x.x); got != x.want {
			t.Errorf("Jumps(%+v): %v", x.x, got)
		}
	}
}

// P6.1, the first places.
func TestPlaces(t *testing.T) {
	for _, x := range []struct {
		name string
		l    []api.Insn
		want []int
	}{
		{"nil", nil, nil},
		{"none", list(), nil},
		{"one", list(exit), []int{0}},
		{"one wide", list(wide), []int{0}},
		{"narrow ones", list(mov, jeq(1), call, exit), []int{0, 1, 2, 3}},
		{"wide ahead", list(wide, jeq(-3), ja(0), exit), []int{0, 2, 3, 4}},
		{"wide behind", list(mov, mov, wide), []int{0, 1, 2}},
		{"wide between", list(mov, wide, mov, wide, wide, exit), []int{0, 1, 3, 4, 6, 8}},
		{"a map", list(api.Insn{Op: wideCode, Src: 1, Imm: 4}, exit), []int{0, 2}},
		{"a jump that leads nowhere", list(ja(500), exit), []int{0, 1}},
	} {
		if got := flow.Places(x.l); !slices.Equal(got, x.want) {
			t.Errorf("%s: Places: %v, not %v", x.name, got, x.want)
		}
	}
	// More than MaxInsns stand somewhere, too.
	for _, n := range []int{255, 256, 257, 1000} {
		narrow, double := flow.Places(of(n, mov)), flow.Places(of(n, wide))
		if len(narrow) != n || len(double) != n {
			t.Fatalf("Places of %d: %d, %d", n, len(narrow), len(double))
		}
		for i := range n {
			if narrow[i] != i || double[i] != 2*i {
				t.Fatalf("Places of %d: %d and %d at %d", n, narrow[i], double[i], i)
			}
		}
	}
}

// P6.2, the chapter's examples and the edges of targets.
func TestTargets(t *testing.T) {
	for _, x := range []struct {
		name string
		l    []api.Insn
		want []int
	}{
		{"no jump", list(mov, exit), []int{-1, -1}},
		{"over one", list(jeq(1), mov, exit), []int{2, -1, -1}},
		{"over a wide one", list(jeq(2), wide, exit), []int{2, -1, -1}},
		{"back", list(mov, ja(-2)), []int{-1, 0}},

		{"Exit alone", list(exit), []int{-1}},
		{"Ja to itself alone", list(ja(-1)), []int{0}},
		{"a jump to itself", list(jeq(-1), exit), []int{0, -1}},
		{"to the next", list(jeq(0), exit), []int{1, -1}},
		{"Ja to the next", list(ja(0), exit), []int{1, -1}},
		{"to the first", list(wide, mov, jlt32(-4), exit), []int{-1, -1, 0, -1}},
		{"to the last", list(jlt32(4), wide, wide, exit), []int{3, -1, -1, -1}},
		{"the last one back", list(mov, jeq(0), ja(-2)), []int{-1, 2, 1}},
		{"a wide one ahead of the jump", list(wide, jeq(1), mov, exit), []int{-1, 3, -1, -1}},
		{"a wide one as the target", list(jeq(1), mov, wide, exit), []int{2, -1, -1, -1}},
		{"a wide one as the next, and the target", list(jeq(0), wide, exit), []int{1, -1, -1}},
		{"back over a wide one, to one", list(wide, wide, jeq(-3), exit), []int{-1, -1, 1, -1}},
		{"Call and Exit are no jumps", list(call, jeq(1), exit, exit), []int{-1, 3, -1, -1}},
		{"Ja, and another one to what is behind it", list(jeq(1), ja(1), mov, exit), []int{2, 3, -1, -1}},
		{"a loop", list(mov, jeq(2), mov, ja(-3), exit), []int{-1, 4, -1, 1, -1}},
		{"two loops, one in the other", list(mov, mov, jlt32(-2), jeq(-4), exit), []int{-1, -1, 1, 0, -1}},
		{"a loop without an end", list(ja(0), ja(-2)), []int{1, 0}},
		{"round and back to what is between", list(ja(2), mov, exit, ja(-3)), []int{3, -1, -1, 1}},
	} {
		if got, no := flow.Targets(x.l); no != api.OK || !slices.Equal(got, x.want) {
			t.Errorf("%s: Targets: %v, %d, not %v", x.name, got, no, x.want)
		}
	}
}

// P6.2, the errors, and which of several is told.
func TestTargetsWrong(t *testing.T) {
	for _, x := range []struct {
		name string
		l    []api.Insn
		want api.Errno
	}{
		{"nil", nil, api.ErrEnd},
		{"none", list(), api.ErrEnd},
		{"into the second place of a wide one", list(jeq(1), wide, exit), api.ErrJump},
		{"into it from behind", list(wide, jeq(-2), exit), api.ErrJump},
		{"Ja to one that is not there", list(ja(0)), api.ErrJump},
		{"one place behind the end", list(jeq(1), exit), api.ErrJump},
		{"one place behind a wide end", list(jeq(2), wide), api.ErrJump},
		{"one place ahead of the beginning", list(jeq(-2), exit), api.ErrJump},
		{"one place ahead, from behind a wide one", list(wide, ja(-4)), api.ErrJump},
		{"Off at its most", list(jeq(1<<15-1), exit), api.ErrJump},
		{"Off at its least", list(jlt32(-1<<15), exit), api.ErrJump},
		{"Ja at its most", list(ja(1<<15 - 1)), api.ErrJump},
		{"Ja at its least", list(mov, ja(-1<<15)), api.ErrJump},
		{"no Exit", list(mov), api.ErrEnd},
		{"a wide one last", list(exit, wide), api.ErrEnd},
		{"Call last", list(mov, call), api.ErrEnd},
		{"a jump back last", list(mov, jeq(-2)), api.ErrEnd},
		{"a jump to itself last", list(jlt32(-1)), api.ErrEnd},
		{"behind Exit", list(exit, mov), api.ErrEnd},
		{"a second Exit", list(exit, exit), api.ErrDead},
		{"over one", list(ja(1), mov, exit), api.ErrDead},
		{"over a wide one", list(ja(2), wide, exit), api.ErrDead},
		{"behind Ja back", list(mov, ja(-2), exit), api.ErrDead},
		{"behind Ja to itself", list(ja(-1), exit), api.ErrDead},
		{"only a dead one goes there", list(ja(2), mov, mov, exit), api.ErrDead},
		{"only a dead jump goes there", list(ja(2), jeq(2), exit, exit, exit), api.ErrDead},
		{"only dead ones go to each other", list(exit, ja(0), ja(-2)), api.ErrDead},
		{"only a dead one goes back there", list(ja(1), mov, exit, ja(-3)), api.ErrDead},

		{"too many, and a jump that leads nowhere", of(257, ja(500)), api.ErrMany},
		{"too many, and no Exit", of(257, mov), api.ErrMany},
		{"too many, and dead ones", of(257, exit), api.ErrMany},
		{"a jump that leads nowhere, no Exit, and a dead one", list(exit, jeq(500), mov), api.ErrJump},
		{"the last one leads nowhere, and a dead one", list(exit, jeq(0)), api.ErrJump},
		{"a dead one leads nowhere", list(exit, ja(500), exit), api.ErrJump},
		{"the first leads somewhere, the second nowhere", list(jeq(0), jeq(2), mov), api.ErrJump},
		{"no Exit, and dead ones", list(ja(1), mov, mov), api.ErrEnd},
	} {
		if got, no := flow.Targets(x.l); no != x.want || got != nil {
			t.Errorf("%s: Targets: %v, %d, not %d", x.name, got, no, x.want)
		}
	}
}

// P6.2, MaxInsns and about it, narrow and wide, with jumps from end to end.
func TestTargetsOfMany(t *testing.T) {
	const most = api.MaxInsns
	same := func(n, v int) []int { return slices.Repeat([]int{v}, n) }
	for _, x := range []struct {
		name string
		l    []api.Insn
		want []int
		no   api.Errno
	}{
		{"one less", join(of(most-2, mov), list(exit)), same(most-1, -1), api.OK},
		{"all", join(of(most-1, mov), list(exit)), same(most, -1), api.OK},
		{"one more", join(of(most, mov), list(exit)), nil, api.ErrMany},
		{"all wide", join(of(most-1, wide), list(exit)), same(most, -1), api.OK},
		{"one more, wide", join(of(most, wide), list(exit)), nil, api.ErrMany},
		{"all jumps to the next", join(of(most-1, jeq(0)), list(exit)), nil, api.OK},
		{"over all", join(list(jeq(most-2)), of(most-2, mov), list(exit)), join1(most-1, same(most-1, -1)), api.OK},
		{"over all wide ones", join(list(jeq(2*(most-2))), of(most-2, wide), list(exit)), join1(most-1, same(most-1, -1)), api.OK},
		{"over all wide ones, one place too few", join(list(jeq(2*(most-2)-1)), of(most-2, wide), list(exit)), nil, api.ErrJump},
		{"back over all", join(of(most-1, mov), list(ja(-most))), append(same(most-1, -1), 0), api.OK},
		{"back over all wide ones", join(of(most-1, wide), list(ja(1-2*most))), append(same(most-1, -1), 0), api.OK},
		{"back over all wide ones, one place too many", join(of(most-1, wide), list(ja(-2*most))), nil, api.ErrJump},
		{"a chain of Ja", join(of(most-1, ja(0)), list(exit)), nil, api.OK},
		{"a loop of Ja", join(of(most-1, ja(0)), list(ja(-most))), nil, api.OK},
	} {
		want := x.want
		if want == nil && x.no == api.OK { // each goes to the next; the last one goes to none, or to the first
			want, _ = leads(x.l)
		}
		if got, no := flow.Targets(x.l); no != x.no || !slices.Equal(got, want) {
			t.Errorf("%s: Targets: %v, %d, not %v, %d", x.name, got, no, want, x.no)
		}
	}
}

// join1 is a number ahead of others.
func join1(first int, l []int) []int { return append([]int{first}, l...) }

// P6.3, each kind, and the order of two.
func TestNext(t *testing.T) {
	for _, x := range []struct {
		name string
		l    []api.Insn
		want [][]int
	}{
		{"Mov and Exit", list(mov, exit), [][]int{{1}, nil}},
		{"wide", list(wide, wide, exit), [][]int{{1}, {2}, nil}},
		{"Call", list(call, exit), [][]int{{1}, nil}},
		{"a jump ahead", list(jeq(1), mov, exit), [][]int{{1, 2}, {2}, nil}},
		{"a jump back: the next is first", list(mov, mov, jlt32(-3), exit), [][]int{{1}, {2}, {3, 0}, nil}},
		{"a jump to itself", list(jeq(-1), exit), [][]int{{1, 0}, nil}},
		{"a jump to the next", list(jeq(0), exit), [][]int{{1}, nil}},
		{"a jump to the next, that is wide", list(jlt32(0), wide, exit), [][]int{{1}, {2}, nil}},
		{"a jump over a wide one", list(jlt32(2), wide, exit), [][]int{{1, 2}, {2}, nil}},
		{"Ja to the next", list(ja(0), exit), [][]int{{1}, nil}},
		{"Ja ahead", list(jeq(1), ja(1), mov, exit), [][]int{{1, 2}, {3}, {3}, nil}},
		{"Ja back", list(mov, ja(-2)), [][]int{{1}, {0}}},
		{"Ja to itself", list(ja(-1)), [][]int{{0}}},
		{"several Exits", list(jeq(1), exit, exit), [][]int{{1, 2}, nil, nil}},
		{"all of it", list(wide, jeq(-3), ja(0), exit), [][]int{{1}, {2, 0}, {3}, nil}},
	} {
		targets, no := flow.Targets(x.l)
		if no != api.OK {
			t.Errorf("%s: Targets: %d", x.name, no)
			continue
		}
		for i, want := range x.want {
			if got := flow.Next(x.l, targets, i); !slices.Equal(got, want) {
				t.Errorf("%s: Next of %d: %v, not %v", x.name, i, got, want)
			}
		}
	}
}
