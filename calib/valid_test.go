package calib_test

import (
	"math"
	"testing"

	"planisphere/api"
	"planisphere/calib"
)

// P10.1: fields that are not valid.
func TestBad(t *testing.T) {
	for _, f := range bads() {
		if e := calib.Check(f); e != api.ErrBad {
			t.Error(brief(f), e)
		}
	}
}

// P10.1: each width and height, and one pixel more or less.
func TestSides(t *testing.T) {
	for _, w := range []int{-1, 0, 1, 2, 3, 50, 99, 100, 101, 102} {
		for _, h := range []int{-1, 0, 1, 2, 3, 50, 99, 100, 101, 102} {
			count := max(w, 0) * max(h, 0)
			for _, more := range []int{-1, 0, 1} {
				if count+more < 0 {
					continue
				}
				want := api.ErrBad
				if more == 0 && 1 <= w && w <= 100 && 1 <= h && h <= 100 {
					want = api.OK
				}
				f := api.Field{W: w, H: h, P: make([]int64, count+more)}
				if e := calib.Check(f); e != want {
					t.Error(w, h, count+more, e, "instead of", want)
				}
			}
		}
	}
}

// P10.1: pixels at both limits and beyond them, in each place.
func TestPixels(t *testing.T) {
	for _, size := range sizes() {
		f := equal(size[0], size[1], 7)
		for i := range f.P {
			for _, p := range []int64{most, -most, most - 1, 1 - most, 0, 1, -1} {
				f.P[i] = p
				if e := calib.Check(f); e != api.OK {
					t.Error(f, e)
				}
			}
			for _, p := range []int64{most + 1, -most - 1, math.MaxInt64, math.MinInt64, 1 << 33} {
				f.P[i] = p
				if e := calib.Check(f); e != api.ErrBad {
					t.Error(f, e)
				}
			}
			f.P[i] = -7
		}
	}
}

// P10.3: Mean has Check's error.
func TestBadMean(t *testing.T) {
	for _, f := range bads() {
		if m, e := calib.Mean(f); e != api.ErrBad || !sameFrac(m, api.Frac{}) {
			t.Error(brief(f), m, e)
		}
	}
}
