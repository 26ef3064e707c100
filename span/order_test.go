package span_test

import (
	"math/big"
	"testing"

	"planisphere/api"
	"planisphere/span"
)

// lesser and greater set z to one of x and y.
func lesser(z, x, y *big.Rat) *big.Rat {
	if x.Cmp(y) < 0 {
		return z.Set(x)
	}
	return z.Set(y)
}

func greater(z, x, y *big.Rat) *big.Rat {
	if x.Cmp(y) > 0 {
		return z.Set(x)
	}
	return z.Set(y)
}

// P3.4: Min, Max and Hull.
func TestBetween(t *testing.T) {
	list := samples(41, 15)
	for _, a := range list {
		for _, b := range list {
			got, e := span.Min(a, b)
			want(t, "Min", got, e, eachTwo(a, b, lesser))
			got, e = span.Max(a, b)
			want(t, "Max", got, e, eachTwo(a, b, greater))
			got, e = span.Hull(a, b)
			want(t, "Hull", got, e, append(points(a), points(b)...))
		}
	}
}

// small are all intervals from -3 to 3 units.
func small() []api.Iv {
	var list []api.Iv
	for lo := int64(-3); lo <= 3; lo++ {
		for hi := lo; hi <= 3; hi++ {
			list = append(list, api.Iv{Lo: lo, Hi: hi})
		}
	}
	return list
}

// halves are the numbers of half a unit that an interval has, in increasing order.
func halves(a api.Iv) []int64 {
	var list []int64
	for n := 2 * a.Lo; n <= 2*a.Hi; n++ {
		list = append(list, n)
	}
	return list
}

// shared are the numbers of half a unit that two intervals have.
func shared(a, b api.Iv) []int64 {
	var list []int64
	for _, x := range halves(a) {
		for _, y := range halves(b) {
			if x == y {
				list = append(list, x)
			}
		}
	}
	return list
}

// P3.4: Meet of small intervals.
func TestMeet(t *testing.T) {
	for _, a := range small() {
		for _, b := range small() {
			got, e := span.Meet(a, b)
			list := shared(a, b)
			if len(list) == 0 {
				is(t, "Meet of none", got, e, api.Iv{}, api.ErrNone)
				continue
			}
			is(t, "Meet", got, e, api.Iv{Lo: list[0] / 2, Hi: list[len(list)-1] / 2}, api.OK)
		}
	}
}

// P3.4: Meet of great intervals.
func TestMeetExtremes(t *testing.T) {
	all := api.Iv{Lo: -most, Hi: most}
	for _, x := range []struct {
		a, b, want api.Iv
		e          api.Errno
	}{
		{all, all, all, api.OK},
		{all, single(most), single(most), api.OK},
		{single(-most), all, single(-most), api.OK},
		{api.Iv{Lo: -most}, api.Iv{Hi: most}, api.Iv{}, api.OK},
		{api.Iv{Lo: -most, Hi: -1}, api.Iv{Hi: most}, api.Iv{}, api.ErrNone},
		{single(most), single(-most), api.Iv{}, api.ErrNone},
		{ones(1, 4), ones(4, 5), ones(4, 4), api.OK},
		{ones(1, 2), ones(3, 4), api.Iv{}, api.ErrNone},
	} {
		got, e := span.Meet(x.a, x.b)
		is(t, "Meet", got, e, x.want, x.e)
	}
}

// compare is what Cmp should return, by all numbers of half a unit.
func compare(a, b api.Iv) int {
	less, greater := true, true
	for _, x := range halves(a) {
		for _, y := range halves(b) {
			less = less && x < y
			greater = greater && x > y
		}
	}
	switch {
	case less:
		return -1
	case greater:
		return 1
	}
	return 0
}

// P3.5: In and Cmp of small intervals.
func TestInCmp(t *testing.T) {
	for _, a := range small() {
		for _, b := range small() {
			if c, e := span.Cmp(a, b); c != compare(a, b) || e != api.OK {
				t.Error("Cmp", a, b, c, e)
			}
			isIn := len(shared(a, b)) == len(halves(a))
			if yes, e := span.In(a, b); yes != isIn || e != api.OK {
				t.Error("In", a, b, yes, e)
			}
		}
	}
}

// P3.5: In and Cmp of great intervals.
func TestInCmpExtremes(t *testing.T) {
	all := api.Iv{Lo: -most, Hi: most}
	for _, x := range []struct {
		a, b  api.Iv
		isIn  bool
		order int
	}{
		{all, all, true, 0},
		{single(most), all, true, 0},
		{all, single(-most), false, 0},
		{single(-most), single(most), false, -1},
		{single(most), single(-most), false, 1},
		{single(most), single(most - 1), false, 1},
		{api.Iv{Lo: -most, Hi: -1}, api.Iv{Hi: most}, false, -1},
		{api.Iv{Lo: -most}, api.Iv{Hi: most}, false, 0},
		{ones(1, 2), ones(2, 3), false, 0},
	} {
		if yes, e := span.In(x.a, x.b); yes != x.isIn || e != api.OK {
			t.Error("In", x.a, x.b, yes, e)
		}
		if c, e := span.Cmp(x.a, x.b); c != x.order || e != api.OK {
			t.Error("Cmp", x.a, x.b, c, e)
		}
	}
}

// P3.5: Mid.
func TestMid(t *testing.T) {
	for _, a := range samples(42, 500) {
		x := new(big.Int).Add(big.NewInt(a.Lo), big.NewInt(a.Hi))
		x.Div(x, big.NewInt(2))
		if n, e := span.Mid(a); n != x.Int64() || e != api.OK {
			t.Error("Mid", a, n, e)
		}
	}
	for _, x := range []struct {
		a    api.Iv
		want int64
	}{
		{api.Iv{Lo: -1}, -1}, {api.Iv{Hi: 1}, 0}, {api.Iv{Lo: -3, Hi: -2}, -3}, {api.Iv{Lo: 2, Hi: 3}, 2},
		{api.Iv{Lo: -1, Hi: 1}, 0}, {ones(-3, 2), -one / 2}, {single(most), most}, {single(-most), -most},
		{api.Iv{Lo: -most, Hi: most}, 0}, {api.Iv{Lo: most - 1, Hi: most}, most - 1}, {api.Iv{Lo: -most, Hi: 1 - most}, -most},
	} {
		if n, e := span.Mid(x.a); n != x.want || e != api.OK {
			t.Error("Mid", x.a, n, e)
		}
	}
}
