package decl_test

import (
	"math"
	"slices"
	"testing"

	"crossbar/api"
	"crossbar/decl"
)

// P7.1, all pairs of maps with assorted fields, and triples behind them.
func TestCheckAll(t *testing.T) {
	var some []api.Decl
	for kind := 0; kind <= 11; kind++ {
		for _, entries := range []int{0, 1, 64, 65} {
			for _, words := range []int{0, 1, 4, 5} {
				for _, buckets := range []int{-1, 0, 2, 6, 32, 64} {
					for inner := -1; inner <= 3; inner++ {
						some = append(some, api.Decl{Kind: kind, Entries: entries, Words: words, Buckets: buckets, Inner: inner})
					}
				}
			}
		}
	}
	counts := map[api.Errno]int{}
	hold := func(l []api.Decl) {
		t.Helper()
		got := decl.Check(l)
		if want := check(l); got != want {
			t.Fatalf("Check(%+v): %d, not %d", l, got, want)
		}
		counts[got]++
	}
	for _, a := range some {
		hold(list(a))
		for kind := range 12 {
			b := right(kind)
			hold(list(a, b))
			hold(list(b, a))
			hold(list(b, a, array))
			hold(list(array, a, b))
		}
	}
	for _, no := range []api.Errno{api.OK, api.ErrArg, api.ErrType} {
		if counts[no] < 300 {
			t.Errorf("the lists are too few: %v", counts)
		}
	}
}

// P7.1, lists of up to twelve maps, most of them right.
func TestCheckLong(t *testing.T) {
	counts := map[api.Errno]int{}
	for seed := range 20000 {
		d := dice(seed)
		l := make([]api.Decl, d.upTo(13))
		for i := range l {
			l[i] = right(1 + d.upTo(10))
			if l[i].Inner > 0 {
				l[i].Inner = 1 + d.upTo(len(l))
			}
			if d.upTo(20) == 0 {
				fields := []*int{&l[i].Kind, &l[i].Entries, &l[i].Words, &l[i].Buckets, &l[i].Inner}
				*fields[d.upTo(5)] += d.upTo(7) - 3
			}
		}
		want := check(l)
		if got := decl.Check(l); got != want {
			t.Fatalf("Check(%+v): %d, not %d", l, got, want)
		}
		counts[want]++
	}
	for _, no := range []api.Errno{api.OK, api.ErrArg, api.ErrType, api.ErrMany} {
		if counts[no] < 1000 {
			t.Errorf("the lists are too few: %v", counts)
		}
	}
}

// P7.4 to P7.6, assorted keys and numbers of buckets.
func TestKeysAll(t *testing.T) {
	numbers := append([]int{-3, -2, -1, 0, 1, 2, 3, 4, 5, 6, 7, 8, 9, 15, 16, 17, 31, 32, 33, 63, 64, 65, 100, 1000, 1 << 16, 1<<32 - 1}, farNumbers...)
	for _, key := range someKeys() {
		for _, n := range numbers {
			got, want := decl.Bucket(key, n), bucket(key, n)
			if got != want || n > 0 && (got < 0 || got >= n) {
				t.Fatalf("Bucket(%#x, %d): %d, not %d", key, n, got, want)
			}
			at, set := decl.Bloom(key, n)
			if wantAt, wantSet := bloom(key, n); at != wantAt || set != wantSet {
				t.Fatalf("Bloom(%#x, %d): %d, %#x, not %d, %#x", key, n, at, set, wantAt, wantSet)
			}
		}
	}
}

// P7.5 and P7.7, all pairs of assorted keys in maps of all kinds, with all numbers of buckets and wrong ones.
func TestAheadAll(t *testing.T) {
	keys := someKeys()
	for _, kind := range []int{-1, 0, 1, 2, 3, 4, 5, 6, 7, 8, 9, 10, 11, math.MinInt, math.MaxInt} {
		for _, buckets := range []int{math.MinInt, -1, 0, 1, 2, 3, 8, 32, math.MaxInt} {
			d := api.Decl{Kind: kind, Entries: 1, Words: 1, Buckets: buckets}
			at := make([]int, len(keys))
			for i, a := range keys {
				at[i] = bucket(a, buckets)
			}
			spread := kind == api.MHash || kind == api.MTable
			for i, a := range keys {
				for j, b := range keys {
					want := a < b
					if spread && at[i] != at[j] {
						want = at[i] < at[j]
					}
					if got := decl.Ahead(d, a, b); got != want {
						t.Fatalf("Ahead(%+v, %#x, %#x): %v", d, a, b, got)
					}
				}
			}
		}
	}
}

// P7.7: exactly one of two different keys is ahead; if one is ahead of a second, and that of a third, the first is ahead of the third.
func TestOrder(t *testing.T) {
	keys := someKeys()
	for len(keys) > 80 {
		keys = slices.Delete(keys, len(keys)/3, len(keys)/3+2)
	}
	for kind := range 12 {
		for _, buckets := range []int{-1, 0, 1, 2, 4, 5, 8, 16, 32, math.MaxInt} {
			d := api.Decl{Kind: kind, Buckets: buckets}
			for _, a := range keys {
				for _, b := range keys {
					ab := decl.Ahead(d, a, b)
					if a == b && ab || a != b && ab == decl.Ahead(d, b, a) {
						t.Fatalf("%#x and %#x in maps like %+v: not exactly one is ahead", a, b, d)
					}
				}
			}
			// An order of that kind is transitive if all stand where the number of those ahead of them says.
			ranks := make([]int, len(keys))
			for i, a := range keys {
				for _, b := range keys {
					if decl.Ahead(d, b, a) {
						ranks[i]++
					}
				}
			}
			for i, a := range keys {
				for j, b := range keys {
					if decl.Ahead(d, a, b) != (ranks[i] < ranks[j]) {
						t.Fatalf("%#x and %#x in maps like %+v: the order is not transitive", a, b, d)
					}
				}
			}
			slices.SortFunc(ranks, func(x, y int) int { return x - y })
			for i, r := range ranks {
				if i != r {
					t.Fatalf("maps like %+v: %d keys are ahead of none of %d", d, r, i)
				}
			}
		}
	}
}

// R3: lists stay as they are, the room behind their ends too; R4: what is answered stays the same.
func TestNothingIsChanged(t *testing.T) {
	for _, l := range [][]api.Decl{
		nil, list(array), list(right(api.MTable), array), list(array, right(api.MTable), right(api.MMaps)), list(array, api.Decl{}),
		of(10, array), of(11, array), list(right(api.MMaps)),
	} {
		room := slices.Grow(slices.Clone(l), 4)
		behind := room[len(l):cap(room)]
		for i := range behind {
			behind[i] = api.Decl{Kind: 77, Entries: 78, Words: 79, Buckets: 80, Inner: 81}
		}
		before := slices.Clone(room[:cap(room)])
		for range 2 {
			if got, want := decl.Check(room), check(l); got != want {
				t.Errorf("Check(%+v): %d, not %d", l, got, want)
			}
		}
		if !slices.Equal(room[:cap(room)], before) {
			t.Errorf("%+v is changed: %+v", l, room[:cap(room)])
		}
	}
}
