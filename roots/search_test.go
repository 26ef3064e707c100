package roots

import (
	"testing"

	"planisphere/api"
	"planisphere/sure"
	"planisphere/terms"
	"planisphere/wide"
)

// monomial is c * x^k and a number.
func monomial(c api.Wide, k int, number int64) []api.Wide {
	return terms.List(k+1, func(i int) api.Wide {
		switch i {
		case 0:
			return wide.From(number)
		case k:
			return c
		}
		return api.Wide{}
	})
}

// A search takes some dozens of steps where halving would take thousands: for
// single roots, and for roots that are very close to each other.
func TestSteps(t *testing.T) {
	one := wide.From(1)
	// x^8 less twice the square of 2^600 x + 3: two roots are very close to an
	// end of cells, one on each side.
	near := monomial(one, 8, -18)
	near[1] = sure.Mul(wide.From(-12), sure.Shift(one, 600))
	near[2] = sure.Neg(sure.Shift(one, 1201))
	for i, x := range []struct {
		p    []api.Wide
		most int
	}{
		{monomial(one, 2, -2), 40},
		{monomial(one, 1, -5), 20},
		{monomial(wide.From(-7), 5, 3), 20},
		{monomial(sure.Shift(one, 1200), 3, -1), 30},
		{near, 160},
	} {
		s, steps := sturm(x.p), 0
		found := s.search(s.beginning(), api.MaxDeep, func(part) bool { steps++; return false })
		if len(found) == 0 || steps > x.most {
			t.Error(i, len(found), "roots in", steps, "steps")
		}
	}
}
