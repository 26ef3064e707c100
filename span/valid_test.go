package span_test

import (
	"math"
	"testing"

	"planisphere/api"
	"planisphere/span"
)

// P3.1: Check.
func TestCheck(t *testing.T) {
	for _, a := range samples(11, 100) {
		if e := span.Check(a); e != api.OK {
			t.Error("valid", a, e)
		}
	}
	for _, a := range bad() {
		if e := span.Check(a); e != api.ErrBad {
			t.Error("not valid", a, e)
		}
	}
}

// P3.1: all functions return ErrBad for an interval that is not valid, whatever
// the other one is, and before ErrZero, ErrNone and ErrRange.
func TestBadArguments(t *testing.T) {
	others := append(bad(), api.Iv{}, ones(-1, 1), ones(5, 7), single(most), single(-most))
	for _, a := range bad() {
		for name, call := range unaries() {
			got, e := call(a)
			is(t, name, got, e, api.Iv{}, api.ErrBad)
		}
		for name, call := range binaries() {
			for _, b := range others {
				got, e := call(a, b)
				is(t, name+" of a bad interval", got, e, api.Iv{}, api.ErrBad)
				got, e = call(b, a)
				is(t, name+" with a bad interval", got, e, api.Iv{}, api.ErrBad)
			}
		}
		for _, n := range []int64{0, 1, math.MinInt64, math.MaxInt64} {
			got, e := span.Scale(a, 1, n)
			is(t, "Scale", got, e, api.Iv{}, api.ErrBad)
			got, e = span.Scale(a, n, 0)
			is(t, "Scale", got, e, api.Iv{}, api.ErrBad)
		}
	}
}

// P3.1: results that are just valid, and those that are just not.
func TestRange(t *testing.T) {
	for _, x := range []struct {
		call string
		a, b api.Iv
		want api.Iv
		e    api.Errno
	}{
		{"Add", single(most), api.Iv{}, single(most), api.OK},
		{"Add", single(most - 1), single(1), single(most), api.OK},
		{"Add", single(most), api.Iv{Hi: 1}, api.Iv{}, api.ErrRange},
		{"Add", single(-most), api.Iv{Lo: -1}, api.Iv{}, api.ErrRange},
		{"Add", single(most), single(most), api.Iv{}, api.ErrRange},
		{"Add", single(-most), single(-most), api.Iv{}, api.ErrRange},
		{"Add", api.Iv{Lo: -most, Hi: most}, ones(-1, 1), api.Iv{}, api.ErrRange},
		{"Sub", api.Iv{}, api.Iv{Lo: -most, Hi: most}, api.Iv{Lo: -most, Hi: most}, api.OK},
		{"Sub", single(-1), single(most), api.Iv{}, api.ErrRange},
		{"Sub", single(1), single(-most), api.Iv{}, api.ErrRange},
		{"Sub", single(-most), single(most), api.Iv{}, api.ErrRange},
		{"Mul", single(most), ones(-1, 1), api.Iv{Lo: -most, Hi: most}, api.OK},
		{"Mul", single(most), single(one + 1), api.Iv{}, api.ErrRange},
		{"Mul", single(-most), api.Iv{Hi: one + 1}, api.Iv{}, api.ErrRange},
		{"Mul", single(most), single(most), api.Iv{}, api.ErrRange},
		{"Mul", single(most), single(-most), api.Iv{}, api.ErrRange},
		{"Div", single(most), ones(-1, -1), single(-most), api.OK},
		{"Div", single(most), single(one - 1), api.Iv{}, api.ErrRange},
		{"Div", single(most), single(1 - one), api.Iv{}, api.ErrRange},
		{"Div", single(1 << 21), single(1), single(most), api.OK},
		{"Div", single(1<<21 + 1), single(1), api.Iv{}, api.ErrRange},
		{"Div", single(1 << 24), single(1), api.Iv{}, api.ErrRange},
		{"Div", single(1 << 25), single(1), api.Iv{}, api.ErrRange},
		{"Div", single(most), single(1), api.Iv{}, api.ErrRange},
		{"Div", single(-most), api.Iv{Lo: 1, Hi: most}, api.Iv{}, api.ErrRange},
	} {
		got, e := binaries()[x.call](x.a, x.b)
		is(t, x.call, got, e, x.want, x.e)
	}
}

// P3.1: ErrRange if an end is only beyond MaxIv because it is rounded, and none
// if it is rounded to MaxIv.
func TestRoundedRange(t *testing.T) {
	x, y := int64(1)<<51+2, int64(1)<<50-1
	got, e := span.Mul(single(x), single(y))
	is(t, "a product that is almost MaxIv", got, e, api.Iv{Lo: most - 1, Hi: most}, api.OK)
	got, e = span.Mul(single(-x), single(y))
	is(t, "a product that is almost -MaxIv", got, e, api.Iv{Lo: -most, Hi: 1 - most}, api.OK)
	// With c as the root of 2^49, rounded down, the product of these two is
	// 2^101 + 2^50 + c - 2 * c * c: less than a unit more than MaxIv.
	const c = 23726566
	x, y = 1<<51-2*c+1, 1<<50+c
	got, e = span.Mul(single(x), single(y))
	is(t, "a product that is barely more", got, e, api.Iv{}, api.ErrRange)
	got, e = span.Mul(single(x), single(-y))
	is(t, "a product that is barely less", got, e, api.Iv{}, api.ErrRange)
	den := int64(1) << 62
	got, e = span.Scale(single(most), den-1, den)
	is(t, "Scale to almost MaxIv", got, e, api.Iv{Lo: most - 1, Hi: most}, api.OK)
	got, e = span.Scale(single(most), den+1, den)
	is(t, "Scale to barely more", got, e, api.Iv{}, api.ErrRange)
	got, e = span.Scale(single(most), den+1, -den)
	is(t, "Scale to barely less", got, e, api.Iv{}, api.ErrRange)
}
