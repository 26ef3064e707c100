package robust_test

import (
	"math/big"
	"math/rand"
	"slices"
	"strconv"
	"testing"

	"planisphere/api"
	"planisphere/robust"
)

// wantClip checks what clipping leaves, and the rounds, and the trimmed mean.
func wantClip(t *testing.T, l []int64, k *big.Rat, left []int, rounds int) {
	t.Helper()
	got, n, e := robust.Clip(l, fraction(k))
	if e != api.OK || n != rounds || !slices.Equal(got, left) {
		t.Error("Clip", brief(l), brief(k), brief(got), n, e, "instead of", brief(left), rounds)
	}
	trimmed, e := robust.Trimmed(l, fraction(k))
	want(t, "Trimmed "+brief(l)+" "+brief(k), trimmed, e, mean(rats(pick(l, left))))
}

// factors are valid factors, the least and the greatest one among them.
func factors(r *rand.Rand) []*big.Rat {
	list := []*big.Rat{
		big.NewRat(1, 1), big.NewRat(1000, 1), big.NewRat(3, 2), big.NewRat(2, 1), big.NewRat(3, 1), big.NewRat(1<<40+1, 1<<40),
		big.NewRat(999999999, 1000000), big.NewRat(5, 4), big.NewRat(31, 1),
	}
	for range 4 {
		den := 1 + r.Int63n(1<<(1+r.Intn(40)))
		list = append(list, big.NewRat(den+r.Int63n(3*den), den))
	}
	return list
}

// P7.3: Clip and Trimmed.
func TestClip(t *testing.T) {
	r := rand.New(rand.NewSource(21))
	count := map[int]int{}
	for _, l := range lists(22) {
		for _, k := range factors(r) {
			left, rounds := clip(l, k)
			wantClip(t, l, k, left, rounds)
			count[min(rounds, 3)]++
		}
	}
	for rounds := range 4 {
		if count[rounds] < 100 {
			t.Error("too few lists with so many rounds:", rounds, count)
		}
	}
}

// long is a list that loses one or two of its elements in each of many rounds
// with the factor 3: each element is as near as it can be if it is left out
// among those before it.
func long(count int) []int64 {
	l := []int64{-3, 2, -1, 0, 1, 3, -2, 1, -1, 2}
	for len(l) < count {
		low, high := int64(1), api.MaxValue
		for low < high {
			middle := (low + high) / 2
			if isOut(append(l, middle)) {
				high = middle
			} else {
				low = middle + 1
			}
		}
		if len(l)%2 == 1 {
			low = -low
		}
		l = append(l, low)
	}
	return l
}

// isOut reports whether the factor 3 leaves the last element out.
func isOut(l []int64) bool {
	var sum, squares float64
	for _, x := range l {
		sum += float64(x)
		squares += float64(x) * float64(x)
	}
	n := float64(len(l))
	gap := n*float64(l[len(l)-1]) - sum
	return gap*gap > 9*(n*squares-sum*sum)
}

// P7.3: many rounds.
func TestRounds(t *testing.T) {
	l := long(500)
	rand.New(rand.NewSource(23)).Shuffle(len(l), func(i, k int) { l[i], l[k] = l[k], l[i] })
	k := big.NewRat(3, 1)
	left, rounds := clip(l, k)
	if rounds < 400 {
		t.Error("too few rounds", rounds)
	}
	wantClip(t, l, k, left, rounds)
}

// near are factors near a number: with numbers of many binary digits, or of
// few. They are less, and greater.
func near(x *big.Rat) (less, greater []*big.Rat) {
	for _, digits := range []uint{1, 30, 63, 64, 65, 100, 255, 256, 300, 1000, 32767, 32768, 50000, 65535, 65536, 98304, 131000} {
		power := new(big.Int).Lsh(big.NewInt(1), digits)
		for _, step := range []*big.Int{power, new(big.Int).Sub(power, big.NewInt(1))} {
			small := new(big.Rat).SetFrac(big.NewInt(1), step)
			less = append(less, new(big.Rat).Sub(x, small))
			greater = append(greater, new(big.Rat).Add(x, small))
		}
	}
	return less, greater
}

// P7.3: an element whose difference from the mean is just that of the factor
// is left, and one that is out by however little is not.
func TestBound(t *testing.T) {
	for _, root := range []int64{2, 3, 5, 31} {
		// The last element of n is sqrt(n - 1) times as far as it should be.
		l := make([]int64, root*root+1)
		l[root*root] = 12345
		whole, _ := clip(l, big.NewRat(1000, 1))
		k := big.NewRat(root, 1)
		less, greater := near(k)
		for _, x := range less {
			if x.Cmp(big.NewRat(1, 1)) >= 0 {
				wantClip(t, l, x, whole[:root*root], 1)
			}
		}
		for _, x := range append(greater, k) {
			wantClip(t, l, x, whole, 0)
		}
	}
}

// pell is the fraction of the numbers that (1 + sqrt(2))^k has without a root
// and with one: it is greater than sqrt(2) for an even k, and else less. No
// fraction with so short numbers is nearer.
func pell(k int) *big.Rat {
	num, den := big.NewInt(1), big.NewInt(0)
	times := func(a, b int) {
		x, y := big.NewInt(int64(a)), big.NewInt(int64(b))
		if a == 0 {
			x.Set(num)
			y.Set(den)
		}
		high := new(big.Int).Mul(den, y)
		cross := new(big.Int).Mul(num, y)
		num.Mul(num, x).Add(num, high.Lsh(high, 1))
		den.Mul(den, x).Add(den, cross)
	}
	for _, digit := range strconv.FormatInt(int64(k), 2) {
		times(0, 0)
		if digit == '1' {
			times(1, 1)
		}
	}
	return new(big.Rat).SetFrac(num, den)
}

// P7.3: factors that are as near as possible to sqrt(2), for a list in which
// it decides.
func TestRoot(t *testing.T) {
	l := []int64{5, 5, 8}
	for _, k := range []int{1, 2, 3, 4, 5, 10, 11, 49, 50, 51, 52, 101, 102, 1000, 1001, 25767, 25768, 25769, 60000, 60001, 103079, 103080} {
		left, rounds := []int{0, 1}, 1
		if k%2 == 0 {
			left, rounds = []int{0, 1, 2}, 0
		}
		if x := pell(k); k > 1 {
			wantClip(t, l, x, left, rounds)
		} else if x.Cmp(big.NewRat(1, 1)) != 0 {
			t.Error("1 + sqrt(2) has", x)
		}
	}
	// The numbers of the last ones are of almost MaxLimbs limbs.
	if bits := pell(103080).Num().BitLen(); bits < 32*api.MaxLimbs-2 || bits > 32*api.MaxLimbs {
		t.Error("the longest number has so many binary digits:", bits)
	}
}

// P7.3: the longest factors, with long lists in several rounds.
func TestLongFactors(t *testing.T) {
	r := rand.New(rand.NewSource(24))
	half := new(big.Int).Lsh(big.NewInt(1), 32*api.MaxLimbs-1)
	for _, l := range [][]int64{some(r, api.MaxValues, 32), some(r, 30, 32), {api.MaxValue}} {
		den := new(big.Int).Add(half, new(big.Int).Rand(r, half))
		num := new(big.Int).Sub(new(big.Int).Lsh(half, 1), big.NewInt(1))
		k := new(big.Rat).SetFrac(num, den)
		left, rounds := clip(l, k)
		wantClip(t, l, k, left, rounds)
	}
}
