package decl_test

import (
	"math"
	"math/bits"
	"testing"

	"crossbar/api"
	"crossbar/decl"
)

// P7.1, lists: the chapter's examples, and which error of several is told.
func TestCheck(t *testing.T) {
	maps := func(inner int) api.Decl { return api.Decl{Kind: api.MMaps, Entries: 2, Words: 1, Inner: inner} }
	table := func(inner int) api.Decl {
		return api.Decl{Kind: api.MTable, Entries: 2, Words: 1, Buckets: 2, Inner: inner}
	}
	noKind, noEntries := api.Decl{Kind: 11, Entries: 1, Words: 1}, api.Decl{Kind: api.MArray, Words: 1}
	for _, x := range []struct {
		name string
		l    []api.Decl
		want api.Errno
	}{
		{"nil", nil, api.OK},
		{"none", list(), api.OK},
		{"a hash", list(api.Decl{Kind: api.MHash, Entries: 8, Words: 1, Buckets: 4}), api.OK},
		{"a hash of 3 buckets", list(api.Decl{Kind: api.MHash, Entries: 8, Words: 1, Buckets: 3}), api.ErrArg},
		{"65 entries", list(api.Decl{Kind: api.MArray, Entries: 65, Words: 1}), api.ErrArg},
		{"nothing set", list(api.Decl{}), api.ErrArg},
		{"like the next", list(maps(2), array), api.OK},
		{"like itself", list(maps(1), array), api.ErrType},
		{"like one behind the end", list(maps(3), array), api.ErrArg},
		{"like the one before", list(array, table(1)), api.OK},
		{"like none", list(array, maps(0)), api.ErrArg},
		{"like one below none", list(array, table(-1)), api.ErrArg},
		{"a table like itself", list(array, table(2)), api.ErrType},
		{"like maps", list(maps(3), array, maps(2)), api.ErrType},
		{"like a table", list(array, table(1), maps(2)), api.ErrType},
		{"a table like maps", list(array, maps(1), table(2)), api.ErrType},
		{"a table like a table", list(array, table(1), table(2)), api.ErrType},
		{"both of one", list(table(2), array, maps(2)), api.OK},
		{"ten", of(10, array), api.OK},
		{"eleven", of(11, array), api.ErrMany},
		{"eleven wrong ones", of(11, noKind), api.ErrMany},
		{"eleven like themselves", of(11, maps(1)), api.ErrMany},
		{"very many", of(1000, api.Decl{}), api.ErrMany},
		{"like the last of ten", append(of(9, maps(10)), array), api.OK},
		{"like one behind ten", append(of(9, array), maps(11)), api.ErrArg},
		{"the last of ten is wrong", append(of(9, array), noEntries), api.ErrArg},
		{"wrong of two kinds, the argument first", list(noEntries, maps(2)), api.ErrArg},
		{"wrong of two kinds, the type first", list(maps(1), noEntries), api.ErrType},
		{"right ones between", list(array, maps(4), array, table(1), noKind), api.ErrType},
		{"wrong of two kinds in one", list(api.Decl{Kind: api.MMaps, Entries: 65, Words: 1, Inner: 1}), api.ErrArg},
		{"wrong of two kinds in one, by words", list(api.Decl{Kind: api.MMaps, Entries: 1, Words: 2, Inner: 1}), api.ErrArg},
		{"wrong of two kinds in one, by buckets", list(api.Decl{Kind: api.MTable, Entries: 1, Words: 1, Inner: 1}), api.ErrArg},
		{"like what is no kind", list(maps(2), noKind), api.ErrArg},
		{"like what is no kind below", list(maps(2), api.Decl{Kind: math.MinInt, Entries: 1, Words: 1}), api.ErrArg},
		{"like wrong maps", list(maps(2), api.Decl{Kind: api.MMaps}), api.ErrType},
		{"like what is wrong", list(table(2), noEntries), api.ErrArg},
		{"like what is wrong, then a type", list(table(3), maps(1), noEntries), api.ErrType},
	} {
		if got := decl.Check(x.l); got != x.want {
			t.Errorf("%s: Check(%+v): %d, not %d", x.name, x.l, got, x.want)
		}
		if want := check(x.l); want != x.want {
			t.Errorf("%s: the chapter written out: %d, not %d", x.name, want, x.want)
		}
	}
}

// P7.1, each field of each kind at both ends, one beyond, and far away.
func TestFields(t *testing.T) {
	type ends struct{ kind, words int }
	for _, x := range []ends{
		{api.MArray, 1}, {api.MCpu, 1}, {api.MRecord, 4}, {api.MHash, 1}, {api.MLru, 1},
		{api.MQueue, 4}, {api.MStack, 4}, {api.MBloom, 1}, {api.MMaps, 1}, {api.MTable, 1},
	} {
		field := func(name string, value int, set func(d *api.Decl), ok bool) {
			t.Helper()
			d := right(x.kind)
			set(&d)
			want := api.ErrArg
			if ok {
				want = api.OK
			}
			// The right ones round it tell nothing.
			if got := decl.Check(list(array, d, array)); got != want {
				t.Errorf("%s of kind %d is %d: %d", name, x.kind, value, got)
			}
		}
		values := append([]int{-64, -32, -8, -4, -2, -1}, farNumbers...)
		for n := range 260 {
			values = append(values, n)
		}
		bucketed := x.kind == api.MHash || x.kind == api.MBloom || x.kind == api.MTable
		inner := x.kind == api.MMaps || x.kind == api.MTable
		for _, n := range values {
			field("Entries", n, func(d *api.Decl) { d.Entries = n }, n >= 1 && n <= 64)
			field("Words", n, func(d *api.Decl) { d.Words = n }, n >= 1 && n <= x.words)
			power := n == 1 || n == 2 || n == 4 || n == 8 || n == 16 || n == 32
			field("Buckets", n, func(d *api.Decl) { d.Buckets = n }, bucketed && power || !bucketed && n == 0)
			// The second one is the map itself.
			if !inner || n != 2 {
				field("Inner", n, func(d *api.Decl) { d.Inner = n }, inner && (n == 1 || n == 3) || !inner && n == 0)
			}
		}
	}
	for _, kind := range append([]int{-11, -10, -1, 0, 11, 12, 64, 256, 257, 265}, farNumbers...) {
		for _, buckets := range []int{0, 4} {
			for _, inner := range []int{0, 1} {
				l := list(array, api.Decl{Kind: kind, Entries: 8, Words: 1, Buckets: buckets, Inner: inner})
				if got := decl.Check(l); got != api.ErrArg {
					t.Errorf("Check(%+v): %d", l, got)
				}
			}
		}
	}
}

// P7.2, a difference in any single field, or in several.
func TestLike(t *testing.T) {
	values := []int{0, 1, -1, 2, 1 << 32, math.MinInt, math.MaxInt}
	for _, a := range values {
		for _, b := range values {
			for set := range 32 {
				x := api.Decl{Kind: a, Entries: a, Words: a, Buckets: a, Inner: a}
				y := x
				for i, field := range []*int{&y.Kind, &y.Entries, &y.Words, &y.Buckets, &y.Inner} {
					if set>>i&1 == 1 {
						*field = b
					}
				}
				want := a == b || set == 0
				if decl.Like(x, y) != want || decl.Like(y, x) != want {
					t.Errorf("Like(%+v, %+v): not %v", x, y, want)
				}
			}
		}
	}
	if decl.Like(api.Decl{Kind: 1, Entries: 2}, api.Decl{Kind: 2, Entries: 1}) {
		t.Error("fields of another order are alike")
	}
}

// P7.3, all kinds and operations, and what is none.
func TestMay(t *testing.T) {
	numbers := append([]int{-256, -10, -9, -8, -2, -1, 63, 64, 65, 72, 127, 128, 255, 256, 257, 264}, farNumbers...)
	for n := range 40 {
		numbers = append(numbers, n)
	}
	count := 0
	for _, kind := range numbers {
		for _, op := range numbers {
			want := may(kind, op)
			if want {
				count++
			}
			if got := decl.May(kind, op); got != want {
				t.Errorf("May(%d, %d): %v", kind, op, got)
			}
		}
	}
	if count != 9+10+6+2+8 {
		t.Errorf("there are %d", count)
	}
	for _, x := range []struct {
		kind, op int
		want     bool
	}{
		{api.MQueue, api.OLookup, false}, {api.MBloom, api.OPeek, true}, {api.MBloom, api.OPop, false}, {api.MArray, api.ODelete, false},
		{api.MLru, api.OTake, true}, {api.MTable, api.OTake, false}, {api.MMaps, api.ODelete, true}, {api.MStack, api.OPop, true},
	} {
		if decl.May(x.kind, x.op) != x.want || may(x.kind, x.op) != x.want {
			t.Errorf("May(%d, %d): not %v", x.kind, x.op, x.want)
		}
	}
}

// P7.4, numbers worked out by hand.
func TestBucket(t *testing.T) {
	for _, x := range []struct {
		key  uint64
		n    int
		want int
	}{
		{1, 8, 1}, {0, 8, 0}, {1, 1, 0}, {1, 2, 1}, {1, 32, 0x19}, {1, 1 << 32, 0x9E3779B9}, {1, math.MaxInt, 0x9E3779B9},
		{1, 0x9E3779B9, 0}, {1, 0x9E3779BA, 0x9E3779B9}, {1, 10, 0x9E3779B9 % 10}, {2, 4, 0x3C6EF372 % 4}, {2, math.MaxInt, 0x3C6EF372},
		{math.MaxUint64, math.MaxInt, 0x61C88646}, {math.MaxUint64, 32, 6}, {math.MaxUint64, 7, 0x61C88646 % 7},
		{1 << 63, math.MaxInt, 1 << 31}, {1 << 32, math.MaxInt, 0x7F4A7C15}, {7, 0, 0}, {7, -1, 0}, {7, -8, 0}, {7, math.MinInt, 0}, {0, math.MaxInt, 0}, {0, 0, 0},
	} {
		if got := decl.Bucket(x.key, x.n); got != x.want || bucket(x.key, x.n) != x.want {
			t.Errorf("Bucket(%#x, %d): %d, not %d", x.key, x.n, got, x.want)
		}
	}
}

// P7.5, keys in one bucket, and in several.
func TestAhead(t *testing.T) {
	hash, table := right(api.MHash), right(api.MTable)
	hash.Buckets, table.Buckets = 8, 8
	one := right(api.MHash)
	one.Buckets = 1
	for _, x := range []struct {
		name string
		d    api.Decl
		a, b uint64
		want bool
	}{
		{"itself", hash, 3, 3, false},
		{"the nought itself", table, 0, 0, false},
		{"by buckets and by numbers", hash, 0, 1, true},
		{"the other way round", hash, 1, 0, false},
		{"5 is in the bucket 7, 6 in 0", hash, 6, 5, true},
		{"5 is in the bucket 7, 6 in 0, the other way round", hash, 5, 6, false},
		{"5 is in the bucket 7 of a table, 6 in 0", table, 6, 5, true},
		{"of a bloom", api.Decl{Kind: api.MBloom, Entries: 8, Words: 1, Buckets: 8}, 6, 5, false},
		{"one bucket", one, 5, 9, true},
		{"one bucket, the other way round", one, 9, 5, false},
		{"one bucket, great", one, 1<<63 - 1, 1 << 63, true},
		{"one bucket, greatest", one, math.MaxUint64, 0, false},
		{"of an lru", right(api.MLru), 3, 9, true},
		{"of an array", right(api.MArray), 1 << 63, 1, false},
		{"of an array, great", right(api.MArray), 1, 1 << 63, true},
		{"of no kind", api.Decl{}, 1, 1 << 63, true},
		{"of no kind, the other way round", api.Decl{Kind: math.MinInt, Buckets: 8}, 5, 4, false},
	} {
		if got := decl.Ahead(x.d, x.a, x.b); got != x.want || ahead(x.d, x.a, x.b) != x.want {
			t.Errorf("%s: Ahead(%+v, %d, %d): %v", x.name, x.d, x.a, x.b, got)
		}
	}
	against := map[int]int{}
	for a := range uint64(200) {
		for b := range a {
			for kind := range 12 {
				d := api.Decl{Kind: kind, Entries: 8, Words: 1, Buckets: 8}
				if decl.Ahead(d, a, b) {
					against[kind]++
				}
			}
		}
	}
	// In hashes and tables alone the bucket goes ahead of the number.
	for kind, n := range against {
		if kind != api.MHash && kind != api.MTable || n < 5000 {
			t.Errorf("in %d of 19900 pairs of kind %d the greater key is ahead", n, kind)
		}
	}
	if len(against) != 2 {
		t.Errorf("the greater key is ahead: %v", against)
	}
}

// P7.6, keys with one, two and three bits.
func TestBloom(t *testing.T) {
	for _, x := range []struct {
		key  uint64
		n    int
		at   int
		want uint64
	}{
		{0, 4, 0, 1}, {0, 0, 0, 1}, {0, math.MinInt, 0, 1},
		{1, 8, 1, 1<<0x30 | 1<<0x2B | 1<<0x0A},
		{1, 0, 0, 1<<0x30 | 1<<0x2B | 1<<0x0A},
		{math.MaxUint64, 32, 6, 1<<0x0F | 1<<0x14 | 1<<0x35},
		{1 << 63, 32, 0, 1<<32 | 1<<0},
	} {
		at, set := decl.Bloom(x.key, x.n)
		if at != x.at || set != x.want {
			t.Errorf("Bloom(%#x, %d): %d, %#x, not %d, %#x", x.key, x.n, at, set, x.at, x.want)
		}
	}
	counts := map[int]int{}
	for key := range uint64(20000) {
		at, set := decl.Bloom(key, 16)
		wantAt, want := bloom(key, 16)
		if at != wantAt || set != want || at != decl.Bucket(key, 16) {
			t.Fatalf("Bloom(%d, 16): %d, %#x, not %d, %#x", key, at, set, wantAt, want)
		}
		counts[bits.OnesCount64(set)]++
	}
	if len(counts) != 3 || counts[1] == 0 || counts[2] == 0 || counts[3] == 0 {
		t.Errorf("how many keys have how many bits: %v", counts)
	}
}
