package robust_test

import (
	"math/big"
	"math/rand"
	"testing"

	"planisphere/api"
	"planisphere/robust"
)

// P7.1: the mean, the variance, the median and the deviation.
func TestValues(t *testing.T) {
	for _, l := range lists(11) {
		exact := rats(l)
		for name, x := range map[string]struct {
			call func(l []int64) (api.Frac, api.Errno)
			want *big.Rat
		}{
			"Mean": {robust.Mean, mean(exact)}, "Variance": {robust.Variance, variance(exact)},
			"Median": {robust.Median, median(exact)}, "Deviation": {robust.Deviation, deviation(exact)},
		} {
			got, e := x.call(l)
			want(t, name+" of "+brief(l), got, e, x.want)
		}
	}
}

// P7.1: medians and deviations that are not whole numbers.
func TestHalves(t *testing.T) {
	for _, x := range []struct {
		l                 []int64
		median, deviation *big.Rat
	}{
		{[]int64{1, 2}, big.NewRat(3, 2), big.NewRat(1, 2)},
		{[]int64{-2, -1}, big.NewRat(-3, 2), big.NewRat(1, 2)},
		{[]int64{0, 0, 1, 9}, big.NewRat(1, 2), big.NewRat(1, 2)},
		{[]int64{0, 3, 4, 9}, big.NewRat(7, 2), big.NewRat(2, 1)},
		{[]int64{0, 1, 4, 5, 0, 5}, big.NewRat(5, 2), big.NewRat(5, 2)},
		{[]int64{10, 3, 4, 0}, big.NewRat(7, 2), big.NewRat(2, 1)},
		{[]int64{9, 1, 2, 4}, big.NewRat(3, 1), big.NewRat(3, 2)},
		{[]int64{3, 0, 8}, big.NewRat(3, 1), big.NewRat(3, 1)},
	} {
		got, e := robust.Median(x.l)
		want(t, "Median", got, e, x.median)
		got, e = robust.Deviation(x.l)
		want(t, "Deviation of "+brief(x.l), got, e, x.deviation)
	}
}

// wantPercentile checks a percentile.
func wantPercentile(t *testing.T, l []int64, num, den int) {
	t.Helper()
	want := percentile(l, num, den)
	if got, e := robust.Percentile(l, num, den); e != api.OK || got != want {
		t.Error(brief(l), num, den, got, e, "instead of", want)
	}
}

// P7.2: Percentile.
func TestPercentile(t *testing.T) {
	r := rand.New(rand.NewSource(12))
	for _, l := range lists(13) {
		pairs := [][2]int{{0, 1}, {1, 1}, {0, 1000}, {1000, 1000}, {1, 2}, {1, 1000}, {999, 1000}}
		if n := len(l); n <= 50 {
			for num := range n + 1 {
				pairs = append(pairs, [2]int{num, n})
			}
			for den := range 12 {
				for num := range den + 1 {
					pairs = append(pairs, [2]int{num, den + 1})
				}
			}
		}
		for range 10 {
			den := 1 + r.Intn(1000)
			pairs = append(pairs, [2]int{r.Intn(den + 1), den})
		}
		for _, x := range pairs {
			wantPercentile(t, l, x[0], x[1])
		}
	}
}

// P7.2: the errors of the share.
func TestShares(t *testing.T) {
	most := int(^uint(0) >> 1)
	for _, l := range [][]int64{{5}, {3, 1, 2}, make([]int64, api.MaxValues)} {
		for _, x := range [][2]int{
			{0, 0}, {1, 0}, {-1, 1}, {2, 1}, {-1, 1000}, {1001, 1000}, {0, 1001}, {500, 1001}, {0, -1}, {-1, -1}, {-1, -2}, {-2, -1},
			{most, most}, {0, most}, {most, 1}, {-most - 1, 1}, {0, -most - 1}, {-most - 1, -most - 1}, {1, most},
		} {
			if got, e := robust.Percentile(l, x[0], x[1]); e != api.ErrArg || got != 0 {
				t.Error(brief(l), x, got, e)
			}
		}
	}
}
