package robust

import (
	"cmp"
	"slices"

	"planisphere/api"
	"planisphere/frac"
)

// sorted returns what a function makes of the elements of a list, in increasing
// order.
func sorted[E any, K cmp.Ordered](l []E, key func(x E) K) []K {
	var list []K
	for _, x := range l {
		list = append(list, key(x))
	}
	slices.Sort(list)
	return list
}

// inOrder returns the elements in increasing order.
func inOrder(l []int64) []int64 {
	return sorted(l, func(x int64) int64 { return x })
}

// twice returns the median times 2 of numbers in increasing order: the one in
// the middle counts twice, if there is one.
func twice(ordered []int64) int64 {
	n := len(ordered)
	return ordered[(n-1)/2] + ordered[n/2]
}

// Median returns the median.
func Median(l []int64) (api.Frac, api.Errno) {
	if e := checkSome(l); e != api.OK {
		return api.Frac{}, e
	}
	return frac.Of(twice(inOrder(l)), 2)
}

// Deviation returns the median of the distances from the median.
func Deviation(l []int64) (api.Frac, api.Errno) {
	if e := checkSome(l); e != api.OK {
		return api.Frac{}, e
	}
	// The distances times 2 are whole numbers.
	middle := twice(inOrder(l))
	distances := sorted(l, func(x int64) int64 { return max(2*x-middle, middle-2*x) })
	return frac.Of(twice(distances), 4)
}

// Percentile returns the percentile num / den.
func Percentile(l []int64, num, den int) (int64, api.Errno) {
	if e := checkSome(l); e != api.OK {
		return 0, e
	}
	if den < 1 || den > 1000 || num < 0 || num > den {
		return 0, api.ErrArg
	}
	// The first elements have to be so many that their number is the share,
	// rounded up, and the last one of them is the result.
	count := (num*len(l) + den - 1) / den
	return inOrder(l)[max(count-1, 0)], api.OK
}
