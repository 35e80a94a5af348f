package word_test

import (
	"bytes"
	"math"
	"testing"

	"crossbar/word"
)

var sizes = []int{1, 2, 4, 8}

// P1.2, the chapter's examples and each number of bits.
func TestSwap(t *testing.T) {
	const a = 0x1122334455667788
	for _, x := range []struct {
		bits int
		big  bool
		a    uint64
		want uint64
	}{
		{16, true, 0x11223344, 0x4433},
		{32, false, 1<<32 + 5, 5},
		{16, false, a, 0x7788},
		{16, true, a, 0x8877},
		{32, false, a, 0x55667788},
		{32, true, a, 0x88776655},
		{64, false, a, a},
		{64, true, a, 0x8877665544332211},
		{16, true, 1, 1 << 8},
		{32, true, 1, 1 << 24},
		{64, true, 1, 1 << 56},
		{16, false, math.MaxUint64, 1<<16 - 1},
		{16, true, math.MaxUint64, 1<<16 - 1},
		{32, false, math.MaxUint64, 1<<32 - 1},
		{32, true, math.MaxUint64, 1<<32 - 1},
		{64, true, math.MaxUint64, math.MaxUint64},
		{16, true, 1 << 16, 0},
		{32, true, 1 << 32, 0},
	} {
		if v, ok := word.Swap(x.bits, x.big, x.a); v != x.want || !ok {
			t.Errorf("Swap(%d, %v, %#x): %#x, %v, not %#x, true", x.bits, x.big, x.a, v, ok, x.want)
		}
	}
}

// P1.2, what is no number of bits: sizes in bytes among it.
func TestSwapOfNone(t *testing.T) {
	list := []int{math.MinInt, math.MaxInt, 1<<32 + 16, 1<<32 + 32, 1<<32 + 64, math.MinInt + 16}
	for n := -130; n <= 260; n++ {
		if n != 16 && n != 32 && n != 64 {
			list = append(list, n)
		}
	}
	for _, n := range list {
		for _, big := range []bool{false, true} {
			if v, ok := word.Swap(n, big, math.MaxUint64); v != 0 || ok {
				t.Errorf("Swap(%d, %v): %#x, %v", n, big, v, ok)
			}
		}
	}
}

// P1.4, the chapter's example, each size, the first and the last place.
func TestGet(t *testing.T) {
	if v, ok := word.Get([]byte{1, 2, 3}, 1, 2); v != 0x0302 || !ok {
		t.Errorf("the chapter's example: %#x, %v", v, ok)
	}
	b := []byte{0xF1, 0xF2, 0xF3, 0xF4, 0xF5, 0xF6, 0xF7, 0xF8, 0xF9}
	for _, x := range []struct {
		at, size int
		want     uint64
	}{
		{0, 1, 0xF1}, {8, 1, 0xF9},
		{0, 2, 0xF2F1}, {7, 2, 0xF9F8},
		{0, 4, 0xF4F3F2F1}, {5, 4, 0xF9F8F7F6},
		{0, 8, 0xF8F7F6F5F4F3F2F1}, {1, 8, 0xF9F8F7F6F5F4F3F2},
	} {
		if v, ok := word.Get(b, x.at, x.size); v != x.want || !ok {
			t.Errorf("Get at %d of %d: %#x, %v, not %#x, true", x.at, x.size, v, ok, x.want)
		}
	}
	if !bytes.Equal(b, []byte{0xF1, 0xF2, 0xF3, 0xF4, 0xF5, 0xF6, 0xF7, 0xF8, 0xF9}) {
		t.Error("Get has changed the bytes:", b)
	}
}

// P1.4, the bytes that Put sets, the first and the last place, what is truncated.
func TestPut(t *testing.T) {
	const v = 0x1122334455667788
	for _, x := range []struct {
		at, size int
		want     []byte
	}{
		{0, 1, []byte{0x88, 0, 0, 0, 0, 0, 0, 0, 0}},
		{8, 1, []byte{0, 0, 0, 0, 0, 0, 0, 0, 0x88}},
		{0, 2, []byte{0x88, 0x77, 0, 0, 0, 0, 0, 0, 0}},
		{7, 2, []byte{0, 0, 0, 0, 0, 0, 0, 0x88, 0x77}},
		{0, 4, []byte{0x88, 0x77, 0x66, 0x55, 0, 0, 0, 0, 0}},
		{5, 4, []byte{0, 0, 0, 0, 0, 0x88, 0x77, 0x66, 0x55}},
		{0, 8, []byte{0x88, 0x77, 0x66, 0x55, 0x44, 0x33, 0x22, 0x11, 0}},
		{1, 8, []byte{0, 0x88, 0x77, 0x66, 0x55, 0x44, 0x33, 0x22, 0x11}},
	} {
		b := make([]byte, 9)
		if ok := word.Put(b, x.at, x.size, v); !ok || !bytes.Equal(b, x.want) {
			t.Errorf("Put at %d of %d: %v, % x, not % x", x.at, x.size, ok, b, x.want)
		}
	}
}

// place is where no number lies.
type place struct{ length, at, size int }

// wrong are the places that P1.4 rules out: no such size, below 0, too few bytes behind, and so far that a sum with the size would wrap round.
func wrong() []place {
	var out []place
	for length := range 20 {
		for size := -9; size <= 17; size++ {
			for at := -9; at <= 29; at++ {
				if !fits(length, at, size) {
					out = append(out, place{length, at, size})
				}
			}
		}
		for _, far := range []int{math.MinInt, math.MinInt + 1, math.MinInt + 8, -1 << 32, 1 << 31, 1 << 32, math.MaxInt - 8, math.MaxInt - 7, math.MaxInt - 1, math.MaxInt} {
			for _, size := range sizes {
				out = append(out, place{length, far, size})
			}
			out = append(out, place{length, 0, far}, place{length, far, far})
		}
	}
	return out
}

// fits is P1.4's condition, for small numbers.
func fits(length, at, size int) bool {
	return (size == 1 || size == 2 || size == 4 || size == 8) && at >= 0 && at+size <= length
}

// P1.4, where there is no number: nothing is answered, and nothing is changed, within the slice or behind its end.
func TestNoPlace(t *testing.T) {
	for _, x := range wrong() {
		whole := bytes.Repeat([]byte{0xEE}, x.length+24)
		same := bytes.Clone(whole)
		b := whole[:x.length]
		if v, ok := word.Get(b, x.at, x.size); v != 0 || ok {
			t.Errorf("Get of %d bytes at %d of %d: %#x, %v", x.length, x.at, x.size, v, ok)
		}
		if word.Put(b, x.at, x.size, 0x1122334455667788) || !bytes.Equal(whole, same) {
			t.Errorf("Put of %d bytes at %d of %d: % x", x.length, x.at, x.size, whole)
		}
	}
	if v, ok := word.Get(nil, 0, 1); v != 0 || ok {
		t.Errorf("Get of nil: %#x, %v", v, ok)
	}
	if word.Put(nil, 0, 1, 1) {
		t.Error("Put of nil")
	}
}

// P1.5, at every place of slices of every small length: what was put is got, truncated, and all other bytes remain, those behind the slice's end too.
func TestRoundTrip(t *testing.T) {
	for length := range 20 {
		for _, size := range sizes {
			for at := 0; at+size <= length; at++ {
				for _, v := range numbers {
					roundTrip(t, length, at, size, v)
				}
			}
		}
	}
}

func roundTrip(t *testing.T, length, at, size int, v uint64) {
	t.Helper()
	whole := make([]byte, length+9)
	for i := range whole {
		whole[i] = byte(0x90 + i)
	}
	same := bytes.Clone(whole)
	b := whole[:length]
	if !word.Put(b, at, size, v) {
		t.Fatalf("Put of %d bytes at %d of %d: false", length, at, size)
	}
	want := v
	if size < 8 {
		want = v % (1 << (8 * size))
	}
	if got, ok := word.Get(b, at, size); got != want || !ok {
		t.Fatalf("Put %#x, %d bytes at %d of %d; Get: %#x, %v", v, length, at, size, got, ok)
	}
	if !bytes.Equal(whole[:at], same[:at]) || !bytes.Equal(whole[at+size:], same[at+size:]) {
		t.Fatalf("Put %#x, %d bytes at %d of %d, has changed others: % x", v, length, at, size, whole)
	}
}
