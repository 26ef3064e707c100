package robust_test

import (
	"fmt"
	"math/big"
	"math/rand"
	"slices"
	"testing"

	"planisphere/api"
)

// whole is a number of any size as api.Wide.
func whole(n *big.Int) api.Wide {
	w := api.Wide{Neg: n.Sign() < 0}
	for rest := new(big.Int).Abs(n); rest.Sign() > 0; rest.Rsh(rest, 32) {
		w.Mag = append(w.Mag, uint32(rest.Uint64()))
	}
	return w
}

// number is what an api.Wide stands for.
func number(w api.Wide) *big.Int {
	n := new(big.Int)
	for _, limb := range slices.Backward(w.Mag) {
		n.Or(n.Lsh(n, 32), big.NewInt(int64(limb)))
	}
	if w.Neg {
		n.Neg(n)
	}
	return n
}

// fraction is a number as api.Frac.
func fraction(x *big.Rat) api.Frac { return api.Frac{Num: whole(x.Num()), Den: whole(x.Denom())} }

// value is what a valid api.Frac stands for.
func value(f api.Frac) *big.Rat { return new(big.Rat).SetFrac(number(f.Num), number(f.Den)) }

// of is the valid fraction of small numbers.
func of(num, den int64) api.Frac { return fraction(big.NewRat(num, den)) }

// sameFrac reports whether two fractions have the same fields.
func sameFrac(a, b api.Frac) bool { return sameWide(a.Num, b.Num) && sameWide(a.Den, b.Den) }

func sameWide(a, b api.Wide) bool { return a.Neg == b.Neg && slices.Equal(a.Mag, b.Mag) }

// brief is a text for messages, of which long ones have the beginning.
func brief(x any) string {
	text := fmt.Sprint(x)
	return text[:min(len(text), 300)]
}

// want checks a fraction against the one that it should be.
func want(t *testing.T, what string, got api.Frac, e api.Errno, x *big.Rat) {
	t.Helper()
	if e != api.OK || !sameFrac(got, fraction(x)) {
		t.Error(what, brief(got), e, "instead of", brief(x))
	}
}

// rats is a list as the tests reckon with it.
func rats(l []int64) []*big.Rat {
	var list []*big.Rat
	for _, x := range l {
		list = append(list, big.NewRat(x, 1))
	}
	return list
}

// mean is the mean.
func mean(l []*big.Rat) *big.Rat {
	sum := new(big.Rat)
	for _, x := range l {
		sum.Add(sum, x)
	}
	return sum.Quo(sum, big.NewRat(int64(len(l)), 1))
}

// gaps are the differences between the elements and a number.
func gaps(l []*big.Rat, from *big.Rat) []*big.Rat {
	var list []*big.Rat
	for _, x := range l {
		list = append(list, new(big.Rat).Sub(x, from))
	}
	return list
}

// square is a number times itself.
func square(x *big.Rat) *big.Rat { return new(big.Rat).Mul(x, x) }

// variance is the variance.
func variance(l []*big.Rat) *big.Rat {
	list := gaps(l, mean(l))
	for i, x := range list {
		list[i] = square(x)
	}
	return mean(list)
}

// median is the median.
func median(l []*big.Rat) *big.Rat {
	l = slices.Clone(l)
	slices.SortFunc(l, (*big.Rat).Cmp)
	n := len(l)
	if n%2 == 1 {
		return l[n/2]
	}
	return mean(l[n/2-1 : n/2+1])
}

// deviation is the deviation.
func deviation(l []*big.Rat) *big.Rat {
	list := gaps(l, median(l))
	for _, x := range list {
		x.Abs(x)
	}
	return median(list)
}

// percentile is the percentile num / den.
func percentile(l []int64, num, den int) int64 {
	found, least := false, int64(0)
	for _, x := range l {
		count := 0
		for _, y := range l {
			if y <= x {
				count++
			}
		}
		if count*den >= num*len(l) && (!found || x < least) {
			found, least = true, x
		}
	}
	return least
}

// clip is what clipping leaves, and the rounds.
func clip(l []int64, k *big.Rat) (left []int, rounds int) {
	for i := range l {
		left = append(left, i)
	}
	squared := square(k)
	for {
		some := rats(pick(l, left))
		limit := new(big.Rat).Mul(squared, variance(some))
		var rest []int
		for i, gap := range gaps(some, mean(some)) {
			if square(gap).Cmp(limit) <= 0 {
				rest = append(rest, left[i])
			}
		}
		if len(rest) == len(left) {
			return left, rounds
		}
		left, rounds = rest, rounds+1
	}
}

// pick is the elements with some indices.
func pick(l []int64, indices []int) []int64 {
	var list []int64
	for _, i := range indices {
		list = append(list, l[i])
	}
	return list
}

// size is a whole number of at most so many binary digits.
func size(r *rand.Rand, digits int) int64 { return r.Int63n(2<<digits+1) - 1<<digits }

// some is a list of so many elements, of at most so many binary digits, of
// which some stand out.
func some(r *rand.Rand, count, digits int) []int64 {
	var l []int64
	for range count {
		if r.Intn(8) > 0 {
			l = append(l, size(r, r.Intn(digits/2+1)))
		} else {
			l = append(l, size(r, r.Intn(digits+1)))
		}
	}
	return l
}

// lists are valid lists that are not empty.
func lists(seed int64) [][]int64 {
	r := rand.New(rand.NewSource(seed))
	most := api.MaxValue
	list := [][]int64{
		{1, 2, 3, 4, 100}, {0}, {7}, {-7}, {most}, {-most}, {5, 5}, {-3, -3, -3}, {1, 2}, {2, 1}, {-1, 2}, {3, 1, 2}, {-5, -8},
		{most, -most}, {most, most, most}, {-most, -most, most}, {most, most - 1}, {1 - most, -most}, {most, 0}, {-most, 1, 0},
		slices.Repeat([]int64{4, 4, 9}, 5), slices.Repeat([]int64{most}, api.MaxValues), slices.Repeat([]int64{-most}, api.MaxValues-1),
		slices.Repeat([]int64{most, -most}, api.MaxValues/2), slices.Repeat([]int64{most - 1, most, -most}, api.MaxValues/3),
		append(slices.Repeat([]int64{most}, api.MaxValues-1), -most), some(r, api.MaxValues, 32), some(r, api.MaxValues-1, 32),
	}
	for range 150 {
		list = append(list, some(r, 1+r.Intn(12), 1+r.Intn(32)), some(r, 1+r.Intn(40), 1+r.Intn(4)))
	}
	return list
}
