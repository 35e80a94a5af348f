package tnum_test

import (
	"math"
	"strings"
	"testing"

	"crossbar/api"
	"crossbar/tnum"
)

const (
	top uint64 = 1 << 63
	all uint64 = math.MaxUint64
)

// tn is a tnum, its bits as they are given.
func tn(value, mask uint64) api.Tnum { return api.Tnum{Value: value, Mask: mask} }

// clean is the same tnum without bits of Value within Mask.
func clean(a api.Tnum) api.Tnum { return tn(a.Value&^a.Mask, a.Mask) }

// text is a tnum's bits from the highest on: '0', '1' or 'x'.
func text(a api.Tnum) string {
	var out strings.Builder
	for i := 63; i >= 0; i-- {
		switch {
		case a.Mask>>i&1 == 1:
			out.WriteByte('x')
		case a.Value>>i&1 == 1:
			out.WriteByte('1')
		default:
			out.WriteByte('0')
		}
	}
	return out.String()
}

// read is the tnum with these bits, without any within Mask.
func read(s string) api.Tnum {
	var a api.Tnum
	for _, c := range s {
		a = tn(a.Value<<1, a.Mask<<1)
		switch c {
		case 'x':
			a.Mask++
		case '1':
			a.Value++
		}
	}
	return a
}

// assorted are tnums whose Value and Mask are each of some edges, so that many have bits of Value within Mask, and some with bits strewn.
func assorted() []api.Tnum {
	var out []api.Tnum
	for _, v := range []uint64{0, 1, 4, 6, 1 << 31, 1<<32 - 1, 1 << 32, top, top - 1, all, 0x0123456789ABCDEF, 0xAAAAAAAAAAAAAAAA} {
		for _, m := range []uint64{0, 1, 2, 0xF0, 1 << 31, 1<<32 - 1, all ^ (1<<32 - 1), top, top - 1, all - 1, all, 0x5555555555555555, 0x00FF00FF00FF00FF} {
			out = append(out, tn(v, m))
		}
	}
	x := uint64(1)
	next := func() uint64 {
		x = x*6364136223846793005 + 1442695040888963407
		return x ^ x>>29
	}
	for range 30 {
		out = append(out, tn(next(), next()&next()), tn(next(), next()&next()&next()&next()))
	}
	return out
}

// two are the functions of two tnums that give one.
var two = []struct {
	name string
	f    func(a, b api.Tnum) api.Tnum
}{
	{"And", tnum.And}, {"Or", tnum.Or}, {"Xor", tnum.Xor}, {"Add", tnum.Add}, {"Sub", tnum.Sub}, {"Mul", tnum.Mul}, {"Join", tnum.Join},
}

// shifts are the functions of a tnum and a count.
var shifts = []struct {
	name string
	f    func(a api.Tnum, n int) api.Tnum
}{
	{"Lsh", tnum.Lsh}, {"Rsh", tnum.Rsh}, {"Arsh", tnum.Arsh},
}

// The definition of a tnum: bits of Value within Mask are ignored, and no returned one has any.
func TestBitsWithinMask(t *testing.T) {
	list := assorted()
	check := func(name string, a, b, got, want api.Tnum) {
		t.Helper()
		if got != want || got.Value&got.Mask != 0 {
			t.Fatalf("%s of %x and %x: %x, of the same without bits within Mask: %x", name, a, b, got, want)
		}
	}
	for _, a := range list {
		for _, b := range list {
			for _, o := range two {
				check(o.name, a, b, o.f(a, b), o.f(clean(a), clean(b)))
			}
			got, is := tnum.Meet(a, b)
			want, same := tnum.Meet(clean(a), clean(b))
			check("Meet", a, b, got, want)
			if is != same || tnum.Within(a, b) != tnum.Within(clean(a), clean(b)) {
				t.Fatalf("Meet or Within of %x and %x: not as without bits within Mask", a, b)
			}
		}
		for n := -65; n <= 130; n++ {
			for _, o := range shifts {
				check(o.name, a, tn(uint64(n), 0), o.f(a, n), o.f(clean(a), n))
			}
		}
		check("Cut", a, a, tnum.Cut(a), tnum.Cut(clean(a)))
		for _, v := range []uint64{0, 1, a.Value, a.Mask, a.Value | a.Mask, a.Value &^ a.Mask, ^a.Value, ^a.Mask, all} {
			if tnum.In(a, v) != tnum.In(clean(a), v) {
				t.Fatalf("In of %x and %#x: not as without bits within Mask", a, v)
			}
		}
	}
}

// P3.1: Of has one number, All has all; In and Within at their edges.
func TestOfAllInWithin(t *testing.T) {
	numbers := []uint64{0, 1, 3, 4, 7, 8, 1<<32 - 1, 1 << 32, top - 1, top, top + 4, all - 1, all}
	for _, v := range numbers {
		if got := tnum.Of(v); got != tn(v, 0) {
			t.Errorf("Of(%#x): %x", v, got)
		}
		for _, w := range numbers {
			if tnum.In(tnum.Of(v), w) != (v == w) || tnum.Within(tnum.Of(v), tnum.Of(w)) != (v == w) {
				t.Errorf("Of(%#x) and %#x", v, w)
			}
		}
		if !tnum.In(tnum.All(), v) || !tnum.Within(tnum.Of(v), tnum.All()) || tnum.Within(tnum.All(), tnum.Of(v)) {
			t.Errorf("All and %#x", v)
		}
		if is := v >= 4 && v <= 7; tnum.In(tn(4, 3), v) != is || tnum.In(tn(7, 3), v) != is || tnum.Within(tnum.Of(v), tn(5, 3)) != is {
			t.Errorf("4 to 7, and %#x", v)
		}
		if is := v == 4 || v == top+4; tnum.In(tn(4, top), v) != is || tnum.In(tn(top+4, top), v) != is {
			t.Errorf("4 and 2^63 + 4, and %#x", v)
		}
	}
	if tnum.All() != tn(0, all) {
		t.Errorf("All: %x", tnum.All())
	}
	for _, x := range []struct {
		a, b api.Tnum
		want bool
	}{
		{tn(4, 3), tn(4, 3), true}, {tn(7, 3), tn(4, 3), true}, {tn(4, 3), tn(6, 3), true},
		{tn(6, 1), tn(4, 3), true}, {tn(4, 3), tn(6, 1), false},
		{tn(4, 3), tn(0, 3), false}, {tn(0, 3), tn(4, 3), false}, {tn(4, 3), tn(0, 7), true},
		{tn(0, 1), tn(0, 2), false}, {tn(0, 2), tn(0, 1), false}, {tn(2, 1), tn(0, 2), false},
		{tn(0, top), tn(0, top-1), false}, {tn(0, top-1), tn(top, top-1), false}, {tn(0, top-1), tn(0, all), true},
		{tn(0, all), tn(0, all), true}, {tn(0, all), tn(0, all-1), false}, {tn(0, all-1), tn(0, all), true}, {tn(all, all), tn(0, all), true},
	} {
		if got := tnum.Within(x.a, x.b); got != x.want {
			t.Errorf("Within(%x, %x): %v", x.a, x.b, got)
		}
	}
	for _, a := range assorted() {
		if !tnum.Within(a, a) || !tnum.Within(a, clean(a)) || !tnum.Within(clean(a), a) || !tnum.Within(a, tnum.All()) {
			t.Errorf("%x is not within itself, or All", a)
		}
	}
}

// bitwise is what a table says of each two bits: a row for each of 0, 1 and x, a column likewise.
func bitwise(table [3]string, a, b api.Tnum) api.Tnum {
	s, r := text(a), text(b)
	var out strings.Builder
	for i := range s {
		row := strings.IndexByte("01x", s[i])
		out.WriteByte(table[row][strings.IndexByte("01x", r[i])])
	}
	return read(out.String())
}

// P3.2 and P3.6's Join, bit by bit.
func TestBitwise(t *testing.T) {
	for _, x := range []struct {
		name  string
		f     func(a, b api.Tnum) api.Tnum
		table [3]string
	}{
		{"And", tnum.And, [3]string{"000", "01x", "0xx"}},
		{"Or", tnum.Or, [3]string{"01x", "111", "x1x"}},
		{"Xor", tnum.Xor, [3]string{"01x", "10x", "xxx"}},
		{"Join", tnum.Join, [3]string{"0xx", "x1x", "xxx"}},
	} {
		for _, a := range assorted() {
			for _, b := range assorted() {
				if got, want := x.f(a, b), bitwise(x.table, a, b); got != want {
					t.Fatalf("%s(%x, %x): %x, not %x", x.name, a, b, got, want)
				}
			}
		}
	}
}

// The chapter's examples of two tnums, and edges of each function.
func TestOfTwo(t *testing.T) {
	a, one := tn(4, 3), tn(1, 0)
	for _, x := range []struct {
		name string
		got  api.Tnum
		want api.Tnum
	}{
		{"and", tnum.And(a, one), tn(0, 1)},
		{"and with 0", tnum.And(tnum.All(), tnum.Of(0)), tnum.Of(0)},
		{"and of all", tnum.And(tnum.All(), tnum.All()), tnum.All()},
		{"or", tnum.Or(a, one), tn(5, 2)},
		{"or with ones", tnum.Or(tnum.All(), tnum.Of(all)), tnum.Of(all)},
		{"xor", tnum.Xor(a, one), a},
		{"xor with itself", tnum.Xor(a, a), tn(0, 3)},
		{"xor of two known", tnum.Xor(tnum.Of(top|6), tnum.Of(3)), tnum.Of(top | 5)},
		{"add", tnum.Add(a, one), tn(0, 15)},
		{"add with 0", tnum.Add(a, tnum.Of(0)), a},
		{"add of two known, past the highest bit", tnum.Add(tnum.Of(all), tnum.Of(2)), tnum.Of(1)},
		{"add with a carry through all bits", tnum.Add(tnum.Of(all), tn(0, 1)), tnum.All()},
		{"add with a carry that no bit stops", tnum.Add(tn(0, 1), tnum.Of(all)), tnum.All()},
		{"add with a carry stopped", tnum.Add(tn(2, 1), tnum.Of(1)), tn(0, 7)},
		{"add of the highest bit unknown", tnum.Add(tn(0, top), tnum.Of(top)), tn(0, top)},
		{"add of the highest bits unknown", tnum.Add(tn(0, top), tn(5, top)), tn(5, top)},
		{"add, unknown bits that carry alike", tnum.Add(tn(8, 1), tnum.Of(8)), tn(16, 1)},
		{"add of all", tnum.Add(tnum.All(), tnum.Of(0)), tnum.All()},
		{"sub of 0", tnum.Sub(a, tn(0, 0)), a},
		{"sub of 1", tnum.Sub(a, one), tn(0, 7)},
		{"sub of two known, past the highest bit", tnum.Sub(tnum.Of(0), tnum.Of(1)), tnum.Of(all)},
		{"sub with a borrow through all bits", tnum.Sub(tnum.Of(0), tn(0, 1)), tnum.All()},
		{"sub with a borrow stopped", tnum.Sub(tn(4, 0), tn(0, 1)), tn(0, 7)},
		{"sub with a borrow through an unknown bit", tnum.Sub(tn(8, 1), tnum.Of(1)), tn(0, 15)},
		{"sub from all bits", tnum.Sub(tnum.Of(all), tn(0, 6)), tn(all-6, 6)},
		{"sub from itself", tnum.Sub(tn(0, 1), tn(0, 1)), tnum.All()},
		{"sub of the highest bit unknown", tnum.Sub(tnum.Of(top), tn(0, top)), tn(0, top)},
		{"join", tnum.Join(tnum.Of(4), tnum.Of(6)), tn(4, 2)},
		{"join with one within", tnum.Join(a, tnum.Of(6)), a},
		{"join with one that is not", tnum.Join(a, tnum.Of(8)), tn(0, 15)},
		{"join of known bits that differ", tnum.Join(tnum.Of(0), tnum.Of(all)), tnum.All()},
	} {
		if x.got != x.want {
			t.Errorf("%s: %x, not %x", x.name, x.got, x.want)
		}
	}
}

// ripple is a sum, or a difference, as P3.3 has it, bit by bit: what a bit may be, with each carry (or borrow) that may come into it.
func ripple(a, b api.Tnum, minus bool) api.Tnum {
	may := func(x api.Tnum, i int) []uint64 {
		if x.Mask>>i&1 == 1 {
			return []uint64{0, 1}
		}
		return []uint64{x.Value >> i & 1}
	}
	var out api.Tnum
	carries := [2]bool{true, false}
	for i := range 64 {
		var bits, next [2]bool
		for _, x := range may(a, i) {
			for _, y := range may(b, i) {
				for c := range uint64(2) {
					if !carries[c] {
						continue
					}
					bits[x^y^c] = true
					first := x
					if minus {
						first = 1 - x // a borrow comes where y and c are more than x
					}
					next[(first+y+c)>>1] = true
				}
			}
		}
		if bits[1] {
			if bits[0] {
				out.Mask |= 1 << i
			} else {
				out.Value |= 1 << i
			}
		}
		carries = next
	}
	return out
}

// P3.3: which bits of sums and differences are known, and what they are, of 64 bits.
func TestAddSub(t *testing.T) {
	list := assorted()
	for _, a := range list {
		for _, b := range list {
			if got, want := tnum.Add(a, b), ripple(a, b, false); got != want {
				t.Fatalf("Add(%x, %x): %x, not %x", a, b, got, want)
			}
			if got, want := tnum.Sub(a, b), ripple(a, b, true); got != want {
				t.Fatalf("Sub(%x, %x): %x, not %x", a, b, got, want)
			}
		}
	}
}

// P3.4: the product of single numbers.
func TestMulOfSingle(t *testing.T) {
	numbers := []uint64{0, 1, 2, 6, 7, 1 << 31, 1<<32 - 1, 1 << 32, 1<<32 + 1, top - 1, top, top + 1, all - 1, all}
	for _, a := range numbers {
		for _, b := range numbers {
			if got := tnum.Mul(tnum.Of(a), tnum.Of(b)); got != tnum.Of(a*b) {
				t.Errorf("Mul of %#x and %#x: %x", a, b, got)
			}
		}
	}
}

// withLowZeros are tnums of which just the n lowest bits are known to be 0, the single ones last.
func withLowZeros(n int) (several, single []api.Tnum) {
	if n == 64 {
		return nil, []api.Tnum{tnum.Of(0)}
	}
	bit := uint64(1) << n
	several = []api.Tnum{tn(0, bit), tn(bit, bit), tn(0, all<<n), tn(all<<n, all<<n)}
	if n < 63 {
		several = append(several, tn(bit, top), tn(bit|top, top), tn(bit, all<<n<<1), tn(0, bit|top))
	}
	return several, []api.Tnum{tnum.Of(bit), tnum.Of(all << n)}
}

// P3.4: where one or neither is single, the known 0 bits at the low ends, up to 64 in total and beyond, and nothing else.
func TestMulOfSeveral(t *testing.T) {
	for i := range 65 {
		for j := range 65 {
			want := tn(0, 0)
			if i+j < 64 {
				want.Mask = all << (i + j)
			}
			several, single := withLowZeros(i)
			others, other := withLowZeros(j)
			for _, a := range several {
				for _, b := range append(others, other...) {
					mulIs(t, a, b, want)
				}
			}
			for _, a := range single {
				for _, b := range others {
					mulIs(t, a, b, want)
				}
			}
		}
	}
	mulIs(t, tn(4, 3), tn(1, 0), tn(0, all)) // the chapter's example: by 1, and yet nothing is known
	mulIs(t, tn(0, 0), tnum.All(), tnum.Of(0))
}

func mulIs(t *testing.T, a, b, want api.Tnum) {
	t.Helper()
	if got := tnum.Mul(a, b); got != want {
		t.Fatalf("Mul(%x, %x): %x, not %x", a, b, got, want)
	}
}

// P3.5: the bits of each shift, for counts below 0, up to 64, and beyond.
func TestShifts(t *testing.T) {
	counts := []int{math.MinInt, math.MinInt + 1, math.MinInt + 63, -1 << 32, -1<<32 + 5, 1 << 32, 1<<32 + 31, math.MaxInt - 1, math.MaxInt}
	for n := -200; n <= 200; n++ {
		counts = append(counts, n)
	}
	for _, a := range assorted() {
		s := text(a)
		for _, n := range counts {
			m := (n%64 + 64) % 64
			zeros := strings.Repeat("0", m)
			for i, want := range []string{s[m:] + zeros, zeros + s[:64-m], strings.Repeat(s[:1], m) + s[:64-m]} {
				if got := shifts[i].f(a, n); got != read(want) {
					t.Fatalf("%s(%x, %d): %s, not %s", shifts[i].name, a, n, text(got), want)
				}
			}
		}
		if got, want := tnum.Cut(a), strings.Repeat("0", 32)+s[32:]; got != read(want) {
			t.Fatalf("Cut(%x): %s, not %s", a, text(got), want)
		}
	}
}

// P3.5: the chapter's examples, and the edges by name.
func TestShiftsByName(t *testing.T) {
	a := tn(4, 3)
	for _, x := range []struct {
		name string
		got  api.Tnum
		want api.Tnum
	}{
		{"lsh by 1", tnum.Lsh(a, 1), tn(8, 6)},
		{"lsh by 0", tnum.Lsh(a, 0), a},
		{"lsh by 63", tnum.Lsh(a, 63), tn(0, top)},
		{"lsh by 64", tnum.Lsh(a, 64), a},
		{"lsh by 65", tnum.Lsh(a, 65), tn(8, 6)},
		{"lsh by -1", tnum.Lsh(a, -1), tn(0, top)},
		{"lsh by -63", tnum.Lsh(a, -63), tn(8, 6)},
		{"rsh by 2", tnum.Rsh(a, 2), tn(1, 0)},
		{"rsh by 63, highest unknown", tnum.Rsh(tn(0, top), 63), tn(0, 1)},
		{"rsh by -1, highest 1", tnum.Rsh(tn(top, 0), -1), tn(1, 0)},
		{"arsh, highest 0", tnum.Arsh(tn(4, 8), 2), tn(1, 2)},
		{"arsh, highest 1", tnum.Arsh(tn(top, 1<<62), 1), tn(3<<62, 1<<61)},
		{"arsh, highest unknown", tnum.Arsh(tn(0, top), 1), tn(0, 3<<62)},
		{"arsh by 63, highest unknown", tnum.Arsh(tn(1, top), 63), tn(0, all)},
		{"arsh by 63, highest 1", tnum.Arsh(tn(top, top-1), 63), tn(all, 0)},
		{"arsh by 64, highest unknown", tnum.Arsh(tn(1, top), 64), tn(1, top)},
		{"arsh by -1, highest 0", tnum.Arsh(tn(0, top-1), -1), tn(0, 0)},
		{"cut", tnum.Cut(tn(1<<32+4, 3<<33+1)), tn(4, 1)},
		{"cut of the highest of 32 bits unknown", tnum.Cut(tn(1<<63, 3<<31)), tn(0, 1<<31)},
		{"cut of all", tnum.Cut(tnum.All()), tn(0, 1<<32-1)},
	} {
		if x.got != x.want {
			t.Errorf("%s: %x, not %x", x.name, x.got, x.want)
		}
	}
}

// P3.6: Meet bit by bit: none if one bit is 1 in one and 0 in the other, and then a zero tnum; otherwise what either knows.
func TestMeet(t *testing.T) {
	for _, a := range assorted() {
		for _, b := range assorted() {
			want, is := api.Tnum{}, (a.Value^b.Value)&^(a.Mask|b.Mask) == 0
			if is {
				want = bitwise([3]string{"0?0", "?11", "01x"}, a, b)
			}
			if got, ok := tnum.Meet(a, b); got != want || ok != is {
				t.Fatalf("Meet(%x, %x): %x, %v, not %x, %v", a, b, got, ok, want, is)
			}
		}
	}
	for _, x := range []struct {
		a, b, want api.Tnum
		is         bool
	}{
		{tn(4, 3), tn(5, top), tn(5, 0), true},
		{tn(4, 3), tn(8, 0), tn(0, 0), false},
		{tn(4, 3), tn(8, 3), tn(0, 0), false},
		{tn(top, top-1), tn(0, top-1), tn(0, 0), false},
		{tn(0, 0), tn(0, 0), tn(0, 0), true},
		{tnum.All(), tnum.All(), tnum.All(), true},
		{tnum.All(), tnum.Of(9), tnum.Of(9), true},
		{tn(7, 3), tn(6, 2), tn(4, 2), true},
		{tn(0, 6), tn(0, 3), tn(0, 2), true},
	} {
		if got, ok := tnum.Meet(x.a, x.b); got != x.want || ok != x.is {
			t.Errorf("Meet(%x, %x): %x, %v, not %x, %v", x.a, x.b, got, ok, x.want, x.is)
		}
	}
}
