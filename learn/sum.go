package learn

import (
	"cmp"

	"gimbal/api"
	"gimbal/fx"
)

// sumLimit is the least number above 0 that no number of a sum may be.
const sumLimit = 1 << 51

func isSum(s api.Vec) bool {
	return isBelowLimit(s.X) && isBelowLimit(s.Y) && isBelowLimit(s.Z)
}

// isBelowLimit takes no sign away: the least int64 has no positive of its own kind.
func isBelowLimit(v int64) bool {
	return v > -sumLimit && v < sumLimit
}

// plus is not vec.Add, which refuses sums that are no vectors. It can't wrap: a sum that is handed in and a word are together far below 2^63.
func plus(a, b api.Vec) api.Vec {
	return api.Vec{X: a.X + b.X, Y: a.Y + b.Y, Z: a.Z + b.Z}
}

func isNear(v, bias api.Vec) bool {
	return isWithinGate(v.X-bias.X) && isWithinGate(v.Y-bias.Y) && isWithinGate(v.Z-bias.Z)
}

func isWithinGate(away int64) bool {
	return away >= -api.Gate && away <= api.Gate
}

// mean is of Quiet samples; all of it fails, if one of its numbers is no word.
func mean(sum api.Vec) (api.Vec, api.Errno) {
	x, ex := fx.Ratio(sum.X, api.Quiet)
	y, ey := fx.Ratio(sum.Y, api.Quiet)
	z, ez := fx.Ratio(sum.Z, api.Quiet)
	if e := cmp.Or(ex, ey, ez); e != api.OK {
		return api.Vec{}, e
	}
	return api.Vec{X: x, Y: y, Z: z}, api.OK
}
