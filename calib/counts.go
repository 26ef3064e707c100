package calib

import (
	"planisphere/api"
	"planisphere/frame"
)

// Counts returns the field of a frame.
func Counts(f api.Frame) (api.Field, api.Errno) {
	if e := frame.Check(f); e != api.OK {
		return api.Field{}, e
	}
	if len(f.Shape) != 2 || !isSide(f.Shape[0]) || !isSide(f.Shape[1]) {
		return api.Field{}, api.ErrArg
	}
	scale, zero := unitsOf(f.Cards)
	return filled(f.Shape[0], f.Shape[1], func(i int) number {
		return whole(f.Raw[i]).times(scale).plus(zero)
	})
}

// unitsOf returns the scale and the zero point of a frame with these cards, in
// units of pixels.
func unitsOf(l []api.Card) (scale, zero number) {
	// Value checks all of its frame, so that it is not asked for each element,
	// but for the elements 0 and 1 of a small one.
	small := api.Frame{Bits: 8, Shape: []int{2}, Raw: []int64{0, 1}, Cards: l}
	zero = known(frame.Value(small, 0))
	scale = known(frame.Value(small, 1)).minus(zero)
	return scale.times(whole(api.Unit)), zero.times(whole(api.Unit))
}
