package trig

import (
	"gimbal/api"
	"gimbal/limb"
)

// A whole number less a rounded one is the rounded difference: so angles are mirrored behind their rounding, and each series is asked only where it is quick.
//
// Nothing that is settled here lies just between two whole numbers: of the fractions of a turn only the multiples of a twelfth have a rational sine, and only those of an eighth a rational tangent; there, as far as they are angles, all is whole. So Settle ends.

// rise is the sine, in Q30, of an angle up to a quarter of a turn.
func rise(a uint32) int64 {
	if a > eighth {
		return inQ30(cosine, quarter-a)
	}
	return inQ30(sine, a)
}

func inQ30(series func(a uint32, limbs int) limb.Span, a uint32) int64 {
	return int64(limb.Settle(func(limbs int) limb.Span {
		return series(a, limbs).Scale(api.One)
	}))
}

// inQuarter is the angle of a point whose numbers are not below 0, and not both 0.
func inQuarter(y, x uint64) uint32 {
	if y > x {
		return quarter - inEighth(x, y)
	}
	return inEighth(y, x)
}

// inEighth is the angle of a point with y not above x. A steep one is told by what it lacks of an eighth of a turn.
func inEighth(y, x uint64) uint32 {
	if 2*y > x {
		return eighth - flat(x-y, x+y)
	}
	return flat(y, x)
}

// flat is the angle of a point with y at most a half of x.
func flat(y, x uint64) uint32 {
	return uint32(limb.Settle(func(limbs int) limb.Span {
		return arctangent(y, x, limbs).Scale(half).Over(pi(limbs))
	}))
}
