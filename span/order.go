package span

import "planisphere/api"

// Min returns the least interval of the lesser one of two numbers.
func Min(a, b api.Iv) (api.Iv, api.Errno) { return join(a, b, lesser) }

// Max returns the least interval of the greater one of two numbers.
func Max(a, b api.Iv) (api.Iv, api.Errno) { return join(a, b, greater) }

// Hull returns the least interval of the numbers of both.
func Hull(a, b api.Iv) (api.Iv, api.Errno) {
	return join(a, b, func(a, b api.Iv) api.Iv { return hull(a, b) })
}

// Meet returns the interval of the numbers that both have.
func Meet(a, b api.Iv) (api.Iv, api.Errno) {
	if e := checkAll(a, b); e != api.OK {
		return api.Iv{}, e
	}
	if order(a, b) != 0 {
		return api.Iv{}, api.ErrNone
	}
	return made(api.Iv{Lo: max(a.Lo, b.Lo), Hi: min(a.Hi, b.Hi)})
}

// In reports whether all numbers of a are in b.
func In(a, b api.Iv) (bool, api.Errno) {
	if e := checkAll(a, b); e != api.OK {
		return false, e
	}
	return a.Lo >= b.Lo && a.Hi <= b.Hi, api.OK
}

// Cmp returns -1 if all numbers of a are less than all of b, 1 if they are all
// greater, and 0 otherwise.
func Cmp(a, b api.Iv) (int, api.Errno) {
	if e := checkAll(a, b); e != api.OK {
		return 0, e
	}
	return order(a, b), api.OK
}

// Mid returns the sum of both ends, divided by 2 and rounded down.
func Mid(a api.Iv) (int64, api.Errno) {
	if e := Check(a); e != api.OK {
		return 0, e
	}
	// A shift rounds down, but a division would round towards 0.
	return (a.Lo + a.Hi) >> 1, api.OK
}

func lesser(a, b api.Iv) api.Iv { return api.Iv{Lo: min(a.Lo, b.Lo), Hi: min(a.Hi, b.Hi)} }

func greater(a, b api.Iv) api.Iv { return api.Iv{Lo: max(a.Lo, b.Lo), Hi: max(a.Hi, b.Hi)} }

// hull returns the least interval of the numbers of several intervals.
func hull(a api.Iv, others ...api.Iv) api.Iv {
	for _, b := range others {
		a = api.Iv{Lo: min(a.Lo, b.Lo), Hi: max(a.Hi, b.Hi)}
	}
	return a
}

// order compares two intervals; 0 means that they have a number in common.
func order(a, b api.Iv) int {
	switch {
	case a.Hi < b.Lo:
		return -1
	case a.Lo > b.Hi:
		return 1
	}
	return 0
}
