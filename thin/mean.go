package thin

import (
	"gimbal/api"
	"gimbal/fx"
)

// maxCount is of how many samples a mean is at most.
const maxCount = 256

// sumLimit is the least number above 0 that no number of a sum may be.
const sumLimit = 1 << 53

func isCount(k int) bool {
	return k >= 1 && k <= maxCount
}

// isThin asks more of the sum of no samples: there is but one.
func isThin(t api.Thin) bool {
	if t.N == 0 {
		return t.Sum == api.Vec{}
	}
	return t.N > 0 && t.N < maxCount && isSum(t.Sum)
}

func isSum(s api.Vec) bool {
	return isBelowLimit(s.X) && isBelowLimit(s.Y) && isBelowLimit(s.Z)
}

// isBelowLimit takes no sign away: the least int64 has no positive of its own kind.
func isBelowLimit(v int64) bool {
	return v > -sumLimit && v < sumLimit
}

// with is t and one more sample.
func with(t api.Thin, v api.Vec) (api.Thin, api.Errno) {
	sum, e := through(numbersOf(t.Sum), numbersOf(v), plus)
	if e != api.OK {
		return api.Thin{}, e
	}
	return api.Thin{Sum: vectorOf(sum), N: t.N + 1}, api.OK
}

// mean is of all samples that t has counted.
func mean(t api.Thin) (api.Vec, api.Errno) {
	n := int64(t.N)
	m, e := through(numbersOf(t.Sum), [axes]int64{n, n, n}, fx.Ratio)
	if e != api.OK {
		return api.Vec{}, e
	}
	return vectorOf(m), api.OK
}

// plus is not fx.Add, which refuses sums that are no words. It can't wrap: a sum that is handed in and a word are together far below 2^63.
func plus(a, b int64) (int64, api.Errno) {
	return a + b, api.OK
}
