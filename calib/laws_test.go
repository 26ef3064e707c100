package calib_test

import (
	"math/rand"
	"slices"
	"testing"

	"planisphere/api"
	"planisphere/calib"
)

// kinds are both ways to combine.
func kinds() []uint8 { return []uint8{api.CombineMedian, api.CombineClip} }

// P10.4: combining equal fields gives this field.
func TestEqualFields(t *testing.T) {
	r := rand.New(rand.NewSource(41))
	for count := 1; count <= api.MaxStack; count++ {
		for _, size := range sizes() {
			f := random(r, size[0], size[1], 31)
			for _, k := range factors(r) {
				for _, kind := range kinds() {
					got, e := calib.Combine(slices.Repeat([]api.Field{f}, count), kind, fraction(k))
					wants(t, brief(count, kind), got, e, f)
				}
			}
		}
	}
}

// stacks are lists of fields of the same size.
func stacks(r *rand.Rand) [][]api.Field {
	var list [][]api.Field
	for range 200 {
		size := sizes()[r.Intn(len(sizes()))]
		var l []api.Field
		digits := 1 + r.Intn(31)
		for range 1 + r.Intn(api.MaxStack) {
			l = append(l, random(r, size[0], size[1], digits))
		}
		list = append(list, l)
	}
	return list
}

// P10.4: the combined pixel is not less than all pixels there, nor greater.
func TestBetween(t *testing.T) {
	r := rand.New(rand.NewSource(42))
	for _, l := range stacks(r) {
		for _, k := range factors(r) {
			for _, kind := range kinds() {
				got, e := calib.Combine(l, kind, fraction(k))
				if e != api.OK || calib.Check(got) != api.OK {
					t.Fatal(brief(l), got, e)
				}
				for i, p := range got.P {
					pixels := stack(l, i)
					if p < slices.Min(pixels) || p > slices.Max(pixels) {
						t.Error(kind, pixels, p)
					}
				}
			}
		}
	}
}

// P10.4: the order of the fields does not matter.
func TestOrder(t *testing.T) {
	r := rand.New(rand.NewSource(43))
	for _, l := range stacks(r) {
		for _, k := range factors(r) {
			for _, kind := range kinds() {
				want, e := calib.Combine(l, kind, fraction(k))
				if e != api.OK {
					t.Fatal(e)
				}
				mixed := slices.Clone(l)
				r.Shuffle(len(mixed), func(i, j int) { mixed[i], mixed[j] = mixed[j], mixed[i] })
				got, e := calib.Combine(mixed, kind, fraction(k))
				wants(t, brief("mixed ", kind), got, e, want)
			}
		}
	}
}

// P10.4: a flat field of equal pixels, and a dark field of zeros.
func TestEven(t *testing.T) {
	r := rand.New(rand.NewSource(44))
	for _, level := range []int64{1, 2, 3, 1000, most - 1, most, 1 + r.Int63n(most)} {
		for _, size := range append(sizes(), [2]int{100, 100}) {
			raw, bias := random(r, size[0], size[1], 31), random(r, size[0], size[1], 30)
			want := field(raw.W, raw.H)
			for i := range raw.P {
				bias.P[i] = max(raw.P[i]-most, min(raw.P[i]+most, bias.P[i]))
				want.P = append(want.P, raw.P[i]-bias.P[i])
			}
			got, bad, e := calib.Apply(raw, bias, equal(raw.W, raw.H, 0), equal(raw.W, raw.H, level), time(r)-1, time(r))
			wants(t, brief("a flat field of ", level), got, e, want)
			if len(bad) != len(want.P) || slices.Contains(bad, true) {
				t.Error(level, brief(bad))
			}
		}
	}
}

// P10.4: a flat field that is multiplied changes nothing.
func TestMultiplied(t *testing.T) {
	r := rand.New(rand.NewSource(45))
	for range 300 {
		size := sizes()[r.Intn(len(sizes()))]
		x := some(r, size[0], size[1], 1+r.Intn(24))
		want, bad, e := x.apply()
		x.flat.P = slices.Clone(x.flat.P)
		factor := 2 + r.Int63n(100)
		for i := range x.flat.P {
			x.flat.P[i] *= factor
		}
		got, wrong, f := x.apply()
		if e != f || !same(got, want) || !slices.Equal(wrong, bad) {
			t.Error(brief(x), factor, got, wrong, f, "instead of", want, bad, e)
		}
	}
}
