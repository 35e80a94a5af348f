package decl_test

import (
	"math"
	"math/big"
	"slices"
	"strings"

	"crossbar/api"
)

// The kinds and the operations by the chapter's words.
var (
	kindNames = []string{"", "MArray", "MCpu", "MRecord", "MHash", "MLru", "MQueue", "MStack", "MBloom", "MMaps", "MTable"}
	opNames   = []string{"", "OLookup", "OUpdate", "ODelete", "ONext", "OTake", "OPush", "OPop", "OPeek"}
)

// opsTable is the table of P7.3.
const opsTable = `
MArray, MCpu, MRecord | OLookup, OUpdate, ONext
MHash, MLru | OLookup, OUpdate, ODelete, ONext, OTake
MQueue, MStack | OPush, OPop, OPeek
MBloom | OPush, OPeek
MMaps, MTable | OLookup, OUpdate, ODelete, ONext
`

// may is P7.3 by the table.
func may(kind, op int) bool {
	if kind < 1 || kind >= len(kindNames) || op < 1 || op >= len(opNames) {
		return false
	}
	for row := range strings.Lines(opsTable) {
		kinds, ops, _ := strings.Cut(strings.TrimSpace(row), " | ")
		if slices.Contains(strings.Split(kinds, ", "), kindNames[kind]) {
			return slices.Contains(strings.Split(ops, ", "), opNames[op])
		}
	}
	return false
}

// holdsMaps tells whether a map is one of maps.
func holdsMaps(d api.Decl) bool { return d.Kind == api.MMaps || d.Kind == api.MTable }

// check is P7.1.
func check(l []api.Decl) api.Errno {
	if len(l) > 10 {
		return api.ErrMany
	}
	for _, d := range l {
		if !rightFields(d, len(l)) {
			return api.ErrArg
		}
		if holdsMaps(d) && holdsMaps(l[d.Inner-1]) {
			return api.ErrType
		}
	}
	return api.OK
}

// rightFields is the definition of a valid declaration, but for the kind of Inner.
func rightFields(d api.Decl, maps int) bool {
	switch d.Kind {
	case api.MRecord, api.MQueue, api.MStack:
		if !slices.Contains([]int{1, 2, 3, 4}, d.Words) {
			return false
		}
	case api.MArray, api.MCpu, api.MHash, api.MLru, api.MBloom, api.MMaps, api.MTable:
		if d.Words != 1 {
			return false
		}
	default:
		return false
	}
	switch d.Kind {
	case api.MHash, api.MBloom, api.MTable:
		if !slices.Contains([]int{1, 2, 4, 8, 16, 32}, d.Buckets) {
			return false
		}
	default:
		if d.Buckets != 0 {
			return false
		}
	}
	if holdsMaps(d) && (d.Inner < 1 || d.Inner > maps) || !holdsMaps(d) && d.Inner != 0 {
		return false
	}
	return d.Entries > 0 && d.Entries < 65
}

// product is that of a key and a factor, modulo 2^64, in numbers without a width.
func product(key uint64, factor string) *big.Int {
	f, _ := new(big.Int).SetString(factor, 16)
	f.Mul(f, new(big.Int).SetUint64(key))
	return f.Mod(f, new(big.Int).Lsh(big.NewInt(1), 64))
}

// bucket is P7.4.
func bucket(key uint64, n int) int {
	if n < 1 {
		return 0
	}
	h := product(key, "9E3779B97F4A7C15")
	h.Div(h, big.NewInt(1<<32))
	return int(h.Mod(h, big.NewInt(int64(n))).Int64())
}

// ahead is P7.5.
func ahead(d api.Decl, a, b uint64) bool {
	x, y := 0, 0
	if d.Kind == api.MHash || d.Kind == api.MTable {
		x, y = bucket(a, d.Buckets), bucket(b, d.Buckets)
	}
	return x < y || x == y && new(big.Int).SetUint64(a).Cmp(new(big.Int).SetUint64(b)) < 0
}

// bloom is P7.6; the bits are those of the number that h's three uppermost groups of six bits are.
func bloom(key uint64, n int) (int, uint64) {
	h := product(key, "C2B2AE3D27D4EB4F")
	bits := new(big.Int)
	for _, low := range []int{58, 52, 46} {
		number := 0
		for i := range 6 {
			number += int(h.Bit(low+i)) << i
		}
		bits.SetBit(bits, number, 1)
	}
	return bucket(key, n), bits.Uint64()
}

// farNumbers are round the ends of int, and of its halves.
var farNumbers = []int{math.MinInt, math.MinInt + 1, -1 << 32, -1 << 31, 1<<31 - 1, 1 << 31, 1 << 32, 1<<32 + 1, math.MaxInt - 1, math.MaxInt}

// right is a valid map of a kind, one of maps like the first.
func right(kind int) api.Decl {
	d := api.Decl{Kind: kind, Entries: 8, Words: 1}
	switch kind {
	case api.MHash, api.MBloom:
		d.Buckets = 4
	case api.MMaps:
		d.Inner = 1
	case api.MTable:
		d.Buckets, d.Inner = 4, 1
	}
	return d
}

// array is what a map of maps may be like.
var array = right(api.MArray)

// list is maps.
func list(l ...api.Decl) []api.Decl { return l }

// of is as many times the same map.
func of(n int, d api.Decl) []api.Decl { return slices.Repeat(list(d), n) }

// someKeys are small ones, great ones, ones with a single bit, and ones that look thrown.
func someKeys() []uint64 {
	var out []uint64
	for i := range uint64(16) {
		out = append(out, i, math.MaxUint64-i, 1<<63+i, 1<<63-1-i, 1<<32+i, 1<<32-1-i)
	}
	for i := range 64 {
		out = append(out, 1<<i)
	}
	d := dice(1)
	for range 40 {
		out = append(out, d.number())
	}
	slices.Sort(out)
	return slices.Compact(out)
}

// dice are numbers that look thrown, the same ones each time.
type dice uint64

// upTo is one from 0 to n - 1.
func (d *dice) upTo(n int) int {
	*d = *d*6364136223846793005 + 1442695040888963407
	return int(uint64(*d) >> 33 % uint64(n))
}

// number is one of 64 bits.
func (d *dice) number() uint64 {
	return uint64(d.upTo(1<<22))<<42 ^ uint64(d.upTo(1<<21))<<21 ^ uint64(d.upTo(1<<21))
}
