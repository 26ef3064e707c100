package robust_test

import (
	"math/big"
	"math/rand"
	"slices"
	"testing"

	"planisphere/api"
	"planisphere/robust"
)

// known returns a result that has no error.
func known(t *testing.T) func(f api.Frac, e api.Errno) *big.Rat {
	return func(f api.Frac, e api.Errno) *big.Rat {
		t.Helper()
		if e != api.OK {
			t.Fatal(e)
		}
		return value(f)
	}
}

// off is the sum of the absolute differences between the elements and a number.
func off(l []int64, from *big.Rat) *big.Rat {
	sum := new(big.Rat)
	for _, gap := range gaps(rats(l), from) {
		sum.Add(sum, gap.Abs(gap))
	}
	return sum
}

// P7.4: the sum of the absolute differences is least for the median.
func TestLeast(t *testing.T) {
	r := rand.New(rand.NewSource(41))
	for _, l := range lists(42) {
		middle := known(t)(robust.Median(l))
		least := off(l, middle)
		for range 20 {
			step := big.NewRat(1-2*r.Int63n(2), 1+r.Int63n(3))
			other := new(big.Rat).Add(middle, step)
			if r.Intn(2) == 0 {
				other = big.NewRat(l[r.Intn(len(l))], 1)
			}
			if got := off(l, other); got.Cmp(least) < 0 {
				t.Error(brief(l), middle, "is not better than", other)
			}
		}
	}
}

// P7.4: a constant that is added to all elements.
func TestConstant(t *testing.T) {
	r := rand.New(rand.NewSource(43))
	for _, l := range lists(44) {
		// Any constant that keeps the list valid.
		low, high := -api.MaxValue-slices.Min(l), api.MaxValue-slices.Max(l)
		constant := low + r.Int63n(high-low+1)
		var moved []int64
		for _, x := range l {
			moved = append(moved, x+constant)
		}
		step := big.NewRat(constant, 1)
		for name, call := range map[string]func(l []int64) (api.Frac, api.Errno){"Mean": robust.Mean, "Median": robust.Median} {
			got, e := call(moved)
			want(t, name, got, e, new(big.Rat).Add(known(t)(call(l)), step))
		}
		for name, call := range map[string]func(l []int64) (api.Frac, api.Errno){"Variance": robust.Variance, "Deviation": robust.Deviation} {
			got, e := call(moved)
			want(t, name, got, e, known(t)(call(l)))
		}
		den := 1 + r.Intn(1000)
		num := r.Intn(den + 1)
		before, _ := robust.Percentile(l, num, den)
		if got, e := robust.Percentile(moved, num, den); e != api.OK || got != before+constant {
			t.Error("Percentile", brief(l), constant, num, den, before, got, e)
		}
		for _, k := range factors(r) {
			left, rounds, e := robust.Clip(l, fraction(k))
			got, n, f := robust.Clip(moved, fraction(k))
			if e != api.OK || f != api.OK || n != rounds || !slices.Equal(got, left) {
				t.Error("Clip", brief(l), constant, brief(k), rounds, n, e, f)
			}
			trimmed, e := robust.Trimmed(moved, fraction(k))
			want(t, "Trimmed", trimmed, e, new(big.Rat).Add(known(t)(robust.Trimmed(l, fraction(k))), step))
		}
	}
}

// P7.4: the order of the list does not matter, except for the indices.
func TestOrder(t *testing.T) {
	r := rand.New(rand.NewSource(45))
	for _, l := range lists(46) {
		places := r.Perm(len(l))
		mixed := pick(l, places)
		for name, call := range map[string]func(l []int64) (api.Frac, api.Errno){
			"Mean": robust.Mean, "Variance": robust.Variance, "Median": robust.Median, "Deviation": robust.Deviation,
			"Trimmed": func(l []int64) (api.Frac, api.Errno) { return robust.Trimmed(l, of(3, 2)) },
		} {
			got, e := call(mixed)
			want(t, name, got, e, known(t)(call(l)))
		}
		before, _ := robust.Percentile(l, 2, 7)
		if got, e := robust.Percentile(mixed, 2, 7); e != api.OK || got != before {
			t.Error("Percentile", brief(l), before, got, e)
		}
		left, rounds, _ := robust.Clip(l, of(3, 2))
		got, n, e := robust.Clip(mixed, of(3, 2))
		back := []int{}
		for _, i := range got {
			back = append(back, places[i])
		}
		slices.Sort(back)
		if e != api.OK || n != rounds || !slices.Equal(back, left) || !slices.IsSorted(got) {
			t.Error("Clip", brief(l), brief(left), brief(got), rounds, n, e)
		}
	}
}

// P7.4: clipping leaves an element, and all of what it leaves.
func TestRest(t *testing.T) {
	r := rand.New(rand.NewSource(47))
	for _, l := range lists(48) {
		for _, k := range factors(r) {
			left, _, e := robust.Clip(l, fraction(k))
			if e != api.OK || len(left) == 0 {
				t.Fatal(brief(l), brief(k), left, e)
			}
			rest := pick(l, left)
			again, rounds, e := robust.Clip(rest, fraction(k))
			if e != api.OK || rounds != 0 || len(again) != len(rest) {
				t.Error(brief(l), brief(k), brief(left), brief(again), rounds, e)
			}
		}
	}
}

// The examples of the chapter.
func TestExamples(t *testing.T) {
	l := []int64{1, 2, 3, 4, 100}
	for _, x := range []struct {
		call func(l []int64) (api.Frac, api.Errno)
		want int64
	}{{robust.Mean, 22}, {robust.Median, 3}, {robust.Deviation, 1}, {robust.Variance, 1522}} {
		got, e := x.call(l)
		want(t, "a result", got, e, big.NewRat(x.want, 1))
	}
	for _, x := range []struct {
		num, den int
		want     int64
	}{{1, 2, 3}, {0, 1, 1}, {1, 1, 100}} {
		if got, e := robust.Percentile(l, x.num, x.den); e != api.OK || got != x.want {
			t.Error(x, got, e)
		}
	}
	wantClip(t, l, big.NewRat(3, 2), []int{0, 1, 2, 3}, 1)
	got, e := robust.Trimmed(l, of(3, 2))
	want(t, "Trimmed", got, e, big.NewRat(5, 2))
}
