package calib

import "planisphere/api"

// Apply returns the calibrated field, and for each pixel whether it is bad.
func Apply(raw, bias, dark, flat api.Field, exposure, darkness int64) (api.Field, []bool, api.Errno) {
	if e := checkAll(raw, bias, dark, flat); e != api.OK {
		return api.Field{}, nil, e
	}
	if exposure < 0 || exposure > api.MaxExposure || darkness < 1 || darkness > api.MaxExposure {
		return api.Field{}, nil, api.ErrArg
	}
	bad, good := divided(flat)
	gain := mean(good).over(whole(darkness))
	if gain.e != api.OK {
		return api.Field{}, nil, gain.e
	}
	f, e := filled(raw.W, raw.H, func(i int) number {
		if bad[i] {
			return whole(0)
		}
		light := (raw.P[i]-bias.P[i])*darkness - dark.P[i]*exposure
		return ratio(light, flat.P[i]).times(gain)
	})
	if e != api.OK {
		return api.Field{}, nil, e
	}
	return f, bad, api.OK
}

// divided returns for each pixel of a flat field whether it is bad, and those
// that are not.
func divided(flat api.Field) (bad []bool, good []int64) {
	for _, p := range flat.P {
		bad = append(bad, p <= 0)
		if p > 0 {
			good = append(good, p)
		}
	}
	return bad, good
}
