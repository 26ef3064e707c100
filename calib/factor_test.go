package calib_test

import (
	"math/big"
	"math/rand"
	"slices"
	"testing"

	"planisphere/api"
	"planisphere/calib"
)

// off are factors that are less and greater than a number by less and less, of
// up to almost MaxLimbs limbs.
func off(x *big.Rat) (less, greater []*big.Rat) {
	for _, digits := range []uint{60, 200, 250, 254, 255, 256, 257, 258, 270, 300, 520, 1000, 131000} {
		step := new(big.Int).Lsh(big.NewInt(1), digits)
		step.Sub(step, big.NewInt(1))
		small := new(big.Rat).SetFrac(big.NewInt(1), step)
		less = append(less, new(big.Rat).Sub(x, small))
		greater = append(greater, new(big.Rat).Add(x, small))
	}
	return less, greater
}

// apart is a list of which the last element is just so many standard deviations
// away from the mean, however far it is from the others.
func apart(deviations int, from, to int64) []int64 {
	return append(slices.Repeat([]int64{from}, deviations*deviations), to)
}

// P10.2: factors that are ever nearer to the one that just leaves an element,
// with several stacks that depend on it, and others.
func TestNearFactors(t *testing.T) {
	r := rand.New(rand.NewSource(21))
	for _, root := range []int{2, 3, 5} {
		count := root*root + 1
		lists := [][]int64{plain(r, count, 1, 12).P, apart(root, 0, 12345), apart(root, 7, 7), plain(r, count, 1, 3).P, apart(root, -5, 0), apart(root, most, -most)}
		slices.Reverse(lists[4])
		less, greater := off(big.NewRat(int64(root), 1))
		for _, k := range append(less, greater...) {
			combines(t, columns(3, 2, lists...), k)
		}
		for _, k := range less {
			got, e := calib.Combine(columns(2, 1, lists[1], lists[5]), api.CombineClip, fraction(k))
			wants(t, "left out", got, e, row(0, most))
		}
	}
}

// P10.2: factors near the least and the greatest one.
func TestEndFactors(t *testing.T) {
	lists := [][]int64{{0, 0, 0, 0, 1, 1}, {3, 3, 3, 5, 5, 5}, {most, -most, most, -most, most, -most}, {0, 0, 0, 0, 0, 6}}
	_, greater := off(big.NewRat(1, 1))
	less, _ := off(big.NewRat(1000, 1))
	for _, k := range append(less, greater...) {
		combines(t, columns(2, 2, lists...), k)
	}
}

// root is a fraction near the square root of a number, of so many binary
// digits: it is less, or greater.
func root(of *big.Rat, digits uint, greater bool) *big.Rat {
	n := new(big.Int).Lsh(of.Num(), 2*digits)
	n.Sqrt(n.Quo(n, of.Denom()))
	if greater {
		n.Add(n, big.NewInt(1))
	}
	return new(big.Rat).SetFrac(n, new(big.Int).Lsh(big.NewInt(1), digits))
}

// P10.2: factors near those that are no fraction.
func TestRootFactors(t *testing.T) {
	lists := [][]int64{{5, 5, 8}, {1, 2, 4}, {-9, 0, 0}, {most, most, -most}}
	other := [][]int64{{5, 5, 5, 8}, {8, 9, 8, 8}, {1, 2, 3, 9}, {4, 4, 4, most}}
	for _, digits := range []uint{30, 127, 254, 255, 256, 257, 600, 131070} {
		for _, greater := range []bool{true, false} {
			combines(t, columns(2, 2, lists...), root(big.NewRat(2, 1), digits, greater))
			combines(t, columns(2, 2, other...), root(big.NewRat(3, 1), digits, greater))
		}
	}
}

// square is the square of the factor that just leaves the last element of the
// list 0, 1, x.
func square(x int64) *big.Rat {
	gap := big.NewRat(2*x-1, 3)
	l := rats([]int64{0, 1, x})
	for _, y := range l {
		y.Sub(y, big.NewRat(x+1, 3))
		y.Mul(y, y)
	}
	return gap.Mul(gap, gap).Quo(gap, mean(l))
}

// P10.2: a factor between those of two lists, whose squares differ by less than
// 2^-90.
func TestBetweenFactors(t *testing.T) {
	for _, x := range []int64{most, most - 1, 1 << 20, 1000} {
		low, high := square(x-1), square(x)
		middle := mean([]*big.Rat{low, high})
		if x == most && high.Cmp(new(big.Rat).Add(low, new(big.Rat).SetFrac(big.NewInt(1), new(big.Int).Lsh(big.NewInt(1), 90)))) >= 0 {
			t.Error(low, high)
		}
		for _, digits := range []uint{250, 256, 300, 10000} {
			for _, of := range []*big.Rat{low, middle, high} {
				for _, greater := range []bool{true, false} {
					k := root(of, digits, greater)
					combines(t, columns(2, 2, []int64{0, 1, x}, []int64{0, 1, x - 1}, []int64{1, x, 0}, []int64{-4, -3, x - 4}), k)
					combines(t, columns(3, 1, []int64{0, 1, x - 1}, []int64{x, 0, 1}, []int64{0, 0, 0}), k)
				}
			}
		}
	}
}

// P10.2: the longest factors, with fields of the greatest size.
func TestLongFactors(t *testing.T) {
	r := rand.New(rand.NewSource(22))
	l := []api.Field{plain(r, 100, 100, 2), plain(r, 100, 100, 2), plain(r, 100, 100, 2), plain(r, 100, 100, 2), plain(r, 100, 100, 2)}
	less, greater := off(big.NewRat(2, 1))
	want, e := calib.Combine(l, api.CombineClip, of(19999, 10000))
	got, f := calib.Combine(l, api.CombineClip, fraction(less[len(less)-1]))
	if e != api.OK {
		t.Fatal(e)
	}
	wants(t, "a little less than 2", got, f, want)
	want, e = calib.Combine(l, api.CombineClip, of(2, 1))
	got, f = calib.Combine(l, api.CombineClip, fraction(greater[len(greater)-1]))
	if e != api.OK {
		t.Fatal(e)
	}
	wants(t, "a little more than 2", got, f, want)
}
