package calib

import (
	"planisphere/api"
	"planisphere/robust"
)

// Combine returns the combined field.
func Combine(l []api.Field, kind uint8, k api.Frac) (api.Field, api.Errno) {
	if len(l) == 0 {
		return api.Field{}, api.ErrNone
	}
	if len(l) > api.MaxStack {
		return api.Field{}, api.ErrMany
	}
	if e := checkAll(l...); e != api.OK {
		return api.Field{}, e
	}
	s := &stack{pixels: make([]int64, len(l))}
	ways := [...]func() number{api.CombineMedian: s.median, api.CombineClip: s.trimmed}
	if int(kind) >= len(ways) || ways[kind] == nil {
		return api.Field{}, api.ErrArg
	}
	if kind == api.CombineClip {
		by, e := factorOf(k)
		if e != api.OK {
			return api.Field{}, e
		}
		s.by = by
	}
	return filled(l[0].W, l[0].H, func(i int) number {
		for j, f := range l {
			s.pixels[j] = f.P[i]
		}
		return ways[kind]()
	})
}

// stack is the pixels in the same place of several fields.
type stack struct {
	pixels []int64
	by     *factor // only for the trimmed mean
}

// median returns the median of the pixels.
func (s *stack) median() number { return known(robust.Median(s.pixels)) }

// trimmed returns the trimmed mean of the pixels.
func (s *stack) trimmed() number { return s.by.trimmed(s.pixels) }
