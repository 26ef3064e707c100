package sure_test

import (
	"slices"
	"testing"

	"planisphere/api"
	"planisphere/sure"
	"planisphere/wide"
)

// is reports whether a number is a small one.
func is(w api.Wide, n int64) bool {
	want := wide.From(n)
	return w.Neg == want.Neg && slices.Equal(w.Mag, want.Mag)
}

// The results are those of package wide, without their errors.
func TestResults(t *testing.T) {
	a, b := wide.From(-17), wide.From(5)
	for i, x := range []struct {
		got  api.Wide
		want int64
	}{
		{sure.Add(a, b), -12}, {sure.Sub(a, b), -22}, {sure.Mul(a, b), -85}, {sure.Neg(a), 17}, {sure.Abs(a), 17},
		{sure.Gcd(wide.From(-12), wide.From(18)), 6}, {sure.Shift(b, 2), 20}, {sure.Shift(a, -1), -9}, {sure.Over(a, b), -4},
	} {
		if !is(x.got, x.want) {
			t.Error(i, x.got, "instead of", x.want)
		}
	}
	if sure.Cmp(a, b) != -1 || sure.Cmp(b, b) != 0 || sure.Sign(a) != -1 || sure.Sign(b) != 1 || sure.Bits(a) != 5 {
		t.Error("a comparison")
	}
}

func TestTests(t *testing.T) {
	for n := int64(-2); n <= 2; n++ {
		if w := wide.From(n); sure.IsZero(w) != (n == 0) || sure.IsOne(w) != (n == 1) {
			t.Error(n)
		}
	}
	if sure.IsOne(wide.From(1<<32 + 1)) {
		t.Error("2^32 + 1")
	}
}

// A result that is out of range is 0.
func TestRange(t *testing.T) {
	long := sure.Shift(wide.From(1), 32*api.MaxLimbs-1)
	if len(long.Mag) != api.MaxLimbs || !is(sure.Add(long, long), 0) || !is(sure.Over(long, wide.From(0)), 0) {
		t.Error("a result that is out of range")
	}
}
