package calib_test

import (
	"math"
	"math/big"
	"math/rand"
	"slices"
	"testing"

	"planisphere/api"
	"planisphere/calib"
)

// frames are the fields from which a calibrated one is made.
type frames struct {
	raw, bias, dark, flat api.Field
	exposure, darkness    int64
}

// calibrated is what Apply should return, and whether all of it has a place in
// a field.
func (x frames) calibrated() (f api.Field, bad []bool, fits bool) {
	var good []int64
	for _, p := range x.flat.P {
		bad = append(bad, p < 1)
		if p >= 1 {
			good = append(good, p)
		}
	}
	middle := mean(rats(good))
	f, fits = filled(x.raw.W, x.raw.H, func(i int) *big.Rat {
		if bad[i] {
			return new(big.Rat)
		}
		light := big.NewRat(x.raw.P[i], 1)
		light.Sub(light, big.NewRat(x.bias.P[i], 1))
		thermal := big.NewRat(x.dark.P[i], 1)
		thermal.Mul(thermal, big.NewRat(x.exposure, x.darkness))
		light.Sub(light, thermal).Mul(light, middle)
		return light.Quo(light, big.NewRat(x.flat.P[i], 1))
	})
	return f, bad, fits
}

// apply is Apply.
func (x frames) apply() (api.Field, []bool, api.Errno) {
	return calib.Apply(x.raw, x.bias, x.dark, x.flat, x.exposure, x.darkness)
}

// applies checks the calibrated field, or that it is ErrRange, which it returns.
func applies(t *testing.T, x frames) (fits bool) {
	t.Helper()
	want, bad, fits := x.calibrated()
	if !fits {
		refuses(t, x, api.ErrRange)
		return false
	}
	got, wrong, e := x.apply()
	wants(t, brief(x), got, e, want)
	if !slices.Equal(wrong, bad) {
		t.Error(brief(x), brief(wrong), "instead of", brief(bad))
	}
	return true
}

// refuses checks with which error no field is calibrated.
func refuses(t *testing.T, x frames, want api.Errno) {
	t.Helper()
	if got, bad, e := x.apply(); e != want || !isNone(got) || len(bad) != 0 {
		t.Error(brief(x), brief(got), brief(bad), e, "instead of", want)
	}
}

// time is an exposure from 1, often at a limit.
func time(r *rand.Rand) int64 {
	switch r.Intn(6) {
	case 0:
		return 1
	case 1:
		return api.MaxExposure
	}
	return 1 + r.Int63n(1<<(1+r.Intn(19)))
}

// some are fields with pixels of at most so many binary digits.
func some(r *rand.Rand, w, h, digits int) frames {
	flat := plain(r, w, h, 1+r.Intn(digits))
	for i := range flat.P {
		if r.Intn(8) > 0 {
			flat.P[i] = 1 + max(flat.P[i], -flat.P[i])
		}
	}
	flat.P[r.Intn(w*h)] = 5
	return frames{plain(r, w, h, digits), plain(r, w, h, digits), plain(r, w, h, digits), flat, time(r) - 1, time(r)}
}

// P10.3: fields of all sizes, with bad pixels.
func TestApply(t *testing.T) {
	r := rand.New(rand.NewSource(31))
	count := map[bool]int{}
	for range 300 {
		for _, size := range sizes() {
			count[applies(t, some(r, size[0], size[1], 1+r.Intn(31)))]++
		}
	}
	for _, size := range [][2]int{{100, 100}, {100, 1}, {1, 100}} {
		x := some(r, size[0], size[1], 5)
		x.exposure, x.darkness = 7, 10
		count[applies(t, x)]++
	}
	if count[true] < 1000 || count[false] < 300 {
		t.Error("too few of a kind", count)
	}
}

// P10.3: pixels and exposures at both limits.
func TestApplyLimits(t *testing.T) {
	ends := []int64{most, -most}
	for i := range 64 {
		x := frames{row(ends[i&1], 3), row(ends[i>>1&1], 5), row(ends[i>>2&1], 7), row([]int64{most, 1, -most}[i%3], 1), 0, 1}
		for _, x.exposure = range []int64{0, 1, api.MaxExposure - 1, api.MaxExposure} {
			for _, x.darkness = range []int64{1, 2, api.MaxExposure - 1, api.MaxExposure} {
				applies(t, x)
			}
		}
	}
	large := frames{equal(100, 100, most), equal(100, 100, 1), equal(100, 100, -1), equal(100, 100, most), api.MaxExposure, api.MaxExposure}
	if !applies(t, large) {
		t.Error("the greatest pixels do not fit")
	}
	large.flat.P[9999] = 1
	if applies(t, large) {
		t.Error("a pixel times the greatest factor fits")
	}
}

// P10.3: a pixel of the flat field is bad if it is 0 or less, and does not
// count for the mean.
func TestApplyBad(t *testing.T) {
	x := frames{row(100, 100, 100, 100, 100, 100), row(0, 0, 0, 0, 0, 0), row(0, 0, 0, 0, 0, 0), row(10, 0, -1, 1, -most, 4), 0, 1}
	got, bad, e := x.apply()
	wants(t, "bad pixels", got, e, row(50, 0, 0, 500, 0, 125))
	if !slices.Equal(bad, []bool{false, true, true, false, true, false}) {
		t.Error(bad)
	}
	// What has no place in a field does not count in a bad pixel.
	x.raw.P[2], x.bias.P[2] = most, -most
	got, _, e = x.apply()
	wants(t, "a bad pixel out of range", got, e, row(50, 0, 0, 500, 0, 125))
	for _, flat := range []api.Field{row(0), row(-1), row(-most)} {
		refuses(t, frames{row(1), row(1), row(1), flat, 1, 1}, api.ErrZero)
	}
	for _, p := range []int64{0, -1, -most} {
		x.flat = equal(6, 1, p)
		refuses(t, x, api.ErrZero)
		for i := range x.flat.P {
			x.flat = equal(6, 1, p)
			x.flat.P[i] = 1
			x.raw = row(9, 8, 7, 6, 5, 4)
			x.bias = equal(6, 1, 1)
			if got, bad, e := x.apply(); e != api.OK || got.P[i] != x.raw.P[i]-1 || bad[i] || slices.Contains(slices.Delete(bad, i, i+1), false) {
				t.Error(x, got, bad, e)
			}
		}
	}
}

// P10.3: results that lie just halfway, and what is rounded only once.
func TestApplyHalves(t *testing.T) {
	zero := equal(5, 1, 0)
	flat := row(2, 2, 2, 2, 1)
	flat.P[4] = -1
	got, _, e := calib.Apply(row(3, 4, -3, -4, 9), zero, row(1, 1, 1, 1, 1), flat, 1, 2)
	wants(t, "halves of a dark field", got, e, row(2, 4, -4, -4, 0))
	// The mean is 7 / 2.
	got, _, e = calib.Apply(row(1, 3, -1, -3, 5), zero, zero, row(7, 7, 1, 1, 2), 1, 1)
	wants(t, "a mean of 18 / 5", got, e, row(1, 2, -4, -11, 9))
	got, _, e = calib.Apply(row(1, 3, -3, 5), equal(4, 1, 0), equal(4, 1, 0), row(6, 6, 6, 6), 1, 1)
	wants(t, "equal pixels", got, e, row(1, 3, -3, 5))
	got, _, e = calib.Apply(row(1, 2, -3), equal(3, 1, 0), equal(3, 1, 0), row(2, 4, 3), 1, 1)
	wants(t, "a mean of 3", got, e, row(2, 2, -3))
	// 10 - 5 / 3 is 25 / 3, times 3 / 1 is 25: not 8 * 3 or 9 * 3.
	got, _, e = calib.Apply(row(10, 0), row(0, 0), row(5, 0), row(1, 5), 1, 3)
	wants(t, "rounded once", got, e, row(25, 0))
}

// P10.3: pixels that are just in a field after rounding, and others.
func TestApplyRange(t *testing.T) {
	for i := range 6 {
		for _, sign := range []int64{1, -1} {
			x := frames{equal(3, 2, 5), equal(3, 2, 0), equal(3, 2, 0), equal(3, 2, 9), 1, 2}
			for _, y := range []struct {
				raw, bias, dark int64
				fits            bool
			}{
				{most, 0, 0, true}, {most, 0, -1, true}, {most, 0, -2, false}, {most, -1, 1, true}, {most, -1, 2, true}, {most, -1, 0, false},
				{most, -1, 3, true}, {0, -most, 0, true}, {0, -most, -1, true}, {1, -most, 0, false}, {most, -most, 0, false}, {0, 0, most, true},
				{most, 0, -most, false}, {most, -most, -most, false}, {most - 1, -1, -1, true}, {most - 1, -1, -2, false},
			} {
				x.raw.P[i], x.bias.P[i], x.dark.P[i] = sign*y.raw, sign*y.bias, sign*y.dark
				if fits := applies(t, x); fits != y.fits {
					t.Error(x, fits)
				}
			}
		}
	}
}

// P10.3: exposures that are out of range.
func TestApplyExposures(t *testing.T) {
	x := frames{row(9, 8), row(1, 2), row(3, 4), row(5, 6), 0, 1}
	for _, x.exposure = range []int64{0, 1, 2, 500000, 999999, 1000000, -1, 1000001, 1 << 32, math.MinInt64, math.MaxInt64} {
		for _, x.darkness = range []int64{1, 2, 500000, 999999, 1000000, 0, -1, 1000001, 1 << 32, math.MinInt64, math.MaxInt64} {
			for _, x.flat = range []api.Field{row(5, 6), row(0, -1)} {
				switch {
				case x.exposure < 0 || x.exposure > 1000000 || x.darkness < 1 || x.darkness > 1000000:
					refuses(t, x, api.ErrArg)
				case x.flat.P[0] == 0:
					refuses(t, x, api.ErrZero)
				default:
					if !applies(t, x) {
						t.Error(x, "does not fit")
					}
				}
			}
		}
	}
}

// P10.3: a field that is not valid comes first, in each place; then fields of
// different sizes.
func TestApplyErrors(t *testing.T) {
	fields := func(x *frames) []*api.Field { return []*api.Field{&x.raw, &x.bias, &x.dark, &x.flat} }
	for i := range 4 {
		for _, bad := range bads() {
			x := frames{equal(3, 2, 1), equal(3, 2, 1), equal(3, 2, 1), equal(3, 2, 1), 1, 1}
			*fields(&x)[i] = bad
			refuses(t, x, api.ErrBad)
			*fields(&x)[(i+1)%4] = equal(2, 2, 0)
			x.exposure, x.darkness = -1, 0
			refuses(t, x, api.ErrBad)
		}
		for _, other := range []api.Field{equal(2, 3, 1), equal(3, 1, 1), equal(6, 1, 1), equal(1, 1, 1), equal(3, 3, 1), equal(4, 2, 1), equal(1, 6, 0)} {
			for _, flat := range []int64{1, 0} {
				x := frames{equal(3, 2, most), equal(3, 2, -most), equal(3, 2, 1), equal(3, 2, flat), 1, 1}
				*fields(&x)[i] = other
				refuses(t, x, api.ErrArg)
			}
		}
	}
}

// P10.3: the mean of all pixels.
func TestMean(t *testing.T) {
	r := rand.New(rand.NewSource(32))
	list := []api.Field{row(0), row(-7), row(1, 2), row(-1, 1), equal(100, 100, most), equal(100, 100, -most), random(r, 100, 100, 31), random(r, 100, 100, 1)}
	for range 100 {
		for _, size := range sizes() {
			list = append(list, random(r, size[0], size[1], 1+r.Intn(31)))
		}
	}
	for _, f := range list {
		m, e := calib.Mean(f)
		if want := fraction(mean(rats(f.P))); e != api.OK || !sameFrac(m, want) {
			t.Error(brief(f), m, e, "instead of", want)
		}
	}
}

// The examples of the chapter.
func TestApplyExample(t *testing.T) {
	got, bad, e := calib.Apply(row(10, 10), row(1, 2), row(2, 4), row(1, 3), 2, 1)
	wants(t, "the example", got, e, row(10, 0))
	if !slices.Equal(bad, []bool{false, false}) {
		t.Error(bad)
	}
}
