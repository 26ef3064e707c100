package robust

import "planisphere/api"

// Clip returns the indices of the elements that clipping leaves, and the rounds.
func Clip(l []int64, k api.Frac) ([]int, int, api.Errno) {
	if e := checkSome(l); e != api.OK {
		return nil, 0, e
	}
	by, e := factorOf(k)
	if e != api.OK {
		return nil, 0, e
	}
	left, rounds := clipped(l, by)
	return left, rounds, api.OK
}

// Trimmed returns the mean of the elements that clipping leaves.
func Trimmed(l []int64, k api.Frac) (api.Frac, api.Errno) {
	left, _, e := Clip(l, k)
	if e != api.OK {
		return api.Frac{}, e
	}
	return total(chosen(l, left)).mean()
}

// clipped returns the indices of the elements that are left, and the rounds.
func clipped(l []int64, by factor) (left []int, rounds int) {
	for i := range l {
		left = append(left, i)
	}
	for {
		rest := within(l, left, by)
		if len(rest) == len(left) {
			return left, rounds
		}
		left = rest
		rounds++
	}
}

// within returns those indices that one round leaves, in the same memory.
func within(l []int64, left []int, by factor) []int {
	sum := total(chosen(l, left))
	reach := by.reach(sum.spread())
	rest := left[:0:len(left)]
	for _, i := range left {
		if sum.distance(l[i]) <= reach {
			rest = append(rest, i)
		}
	}
	return rest
}

// chosen returns the elements with some indices.
func chosen(l []int64, indices []int) []int64 {
	list := make([]int64, 0, len(indices))
	for _, i := range indices {
		list = append(list, l[i])
	}
	return list
}
