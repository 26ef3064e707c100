package frame_test

import (
	"math"
	"testing"

	"planisphere/api"
	"planisphere/frame"
)

// checks checks the error of a frame.
func checks(t *testing.T, f api.Frame, valid bool) {
	t.Helper()
	want := api.ErrBad
	if valid {
		want = api.OK
	}
	if e := frame.Check(f); e != want {
		t.Errorf("%.400v: %v instead of %v", f, e, want)
	}
}

// P9.1: valid frames of each number of bits and of dimensions.
func TestValid(t *testing.T) {
	for _, f := range frames(1) {
		checks(t, f, true)
	}
}

// P9.1: the numbers of bits.
func TestBits(t *testing.T) {
	for bits := -70; bits <= 140; bits++ {
		valid := bits == 8 || bits == 16 || bits == 32 || bits == 64
		checks(t, of(bits), valid)
		checks(t, of(bits, 2, 2), valid)
	}
	for _, bits := range []int{math.MaxInt, math.MinInt, 1<<32 + 8, 1<<32 + 64} {
		checks(t, of(bits), false)
		checks(t, of(bits, 1), false)
	}
}

// P9.1: the number of dimensions and their lengths, each one and together.
func TestShape(t *testing.T) {
	for _, shape := range shapes() {
		checks(t, of(16, shape...), true)
	}
	for _, shape := range [][]int{
		{10001}, {1, 10001}, {2, 5001}, {100, 101}, {3334, 3}, {10, 10, 101}, {1, 1, 10001}, {1, 1, 1, 1}, {1, 1, 1, 1, 1}, {2, 2, 2, 2}, {0}, {0, 1},
		{1, 0}, {5, 5, 0}, {0, 0, 0},
	} {
		checks(t, of(16, shape...), false)
	}
	for _, shape := range [][]int{
		{-1}, {-1, -1}, {1, -1}, {-2, 1, -2}, {math.MaxInt}, {math.MinInt}, {math.MaxInt, math.MaxInt}, {1 << 32, 1 << 32}, {1 << 31, 1 << 31, 4}, {2, math.MinInt},
		{4, 1<<62 + 1}, {1, 4, 1<<62 + 1}, {2, 2, 1<<62 + 1}, {math.MinInt, math.MinInt}, {3, -6148914691236517205}, {10000, 10000, 10000}, make([]int, 1<<20),
	} {
		for count := range 5 {
			checks(t, api.Frame{Bits: 8, Shape: shape, Raw: make([]int64, count)}, false)
		}
	}
}

// P9.1: Raw has as many elements as the product of Shape, and none without it.
func TestElements(t *testing.T) {
	for _, shape := range shapes() {
		f := of(32, shape...)
		want := len(f.Raw)
		for _, count := range []int{0, 1, want - 1, want, want + 1, 2 * want} {
			if count >= 0 {
				f.Raw = make([]int64, count)
				checks(t, f, count == want)
			}
		}
	}
	checks(t, api.Frame{Bits: 8, Shape: []int{}, Raw: []int64{}, Cards: []api.Card{}}, true)
	checks(t, api.Frame{}, false)
}

// P9.1: the least and the greatest elements of each number of bits.
func TestLimits(t *testing.T) {
	for _, bits := range []int{8, 16, 32, 64} {
		least, most := limit(bits)
		for at := range 6 {
			f := of(bits, 3, 2)
			for _, n := range []int64{least, most, least + 1, most - 1, most / 2, 0, 1} {
				f.Raw[at] = n
				checks(t, f, true)
			}
			if bits == 64 {
				continue
			}
			for _, n := range []int64{least - 1, most + 1, math.MaxInt64, math.MinInt64, 1 << bits, -1 << bits, 1<<bits + 1} {
				f.Raw[at] = n
				checks(t, f, false)
			}
		}
	}
	f := of(8, 1)
	for n := int64(-300); n <= 600; n++ {
		f.Raw[0] = n
		checks(t, f, 0 <= n && n <= 255)
	}
}

// P9.1: up to 150 cards, all of them valid.
func TestCards(t *testing.T) {
	for _, count := range []int{0, 1, 149, 150, 151, 152, 200, 201, 1000} {
		checks(t, with(of(8), count), count <= 150)
	}
	for _, at := range []int{0, 1, 74, 149} {
		for _, wrong := range []api.Card{{}, {Key: "END", Kind: api.CardEmpty}, {Key: "A", Kind: api.CardFlag, N: 1}, {Key: "A", Kind: api.CardReal, N: 10}, {Key: "a", Kind: api.CardFlag}} {
			f := with(of(8), 150)
			f.Cards[at] = wrong
			checks(t, f, false)
		}
	}
	for _, c := range some() {
		f := of(64, 2)
		f.Cards = []api.Card{c}
		checks(t, f, true)
	}
}

// P9.1: no card has a reserved keyword, whatever its kind and place.
func TestReserved(t *testing.T) {
	for _, key := range []string{"SIMPLE", "XTENSION", "BITPIX", "NAXIS", "NAXIS1", "NAXIS2", "NAXIS3", "PCOUNT", "GCOUNT", "DATASUM", "CHECKSUM"} {
		for kind := api.CardFlag; kind <= api.CardEmpty; kind++ {
			for _, at := range []int{0, 1, 9} {
				f := with(of(16, 4), 10)
				f.Cards[at] = api.Card{Key: key, Kind: kind}
				checks(t, f, false)
				f.Cards[at].Key = key[:len(key)-1] + "_"
				checks(t, f, true)
			}
		}
	}
	for _, key := range []string{"NAXIS0", "NAXIS4", "NAXIS11", "NAXIS01", "SIMPL", "EXTEND", "BSCALE", "BZERO", "DATE", "PCOUNT1", "GCOUNTS", "NAXIS-1"} {
		f := of(8)
		f.Cards = []api.Card{{Key: key, Kind: api.CardWhole}}
		checks(t, f, true)
	}
}
