package low

import (
	"gimbal/api"
	"gimbal/fx"
)

// maxShift is the greatest s.
const maxShift = 15

// axes is how many numbers a vector has.
const axes = 3

func isShift(s int) bool {
	return s >= 0 && s <= maxShift
}

func numbersOf(a api.Vec) [axes]int64 {
	return [axes]int64{a.X, a.Y, a.Z}
}

// through is what f makes of both, number by number; all of it fails, if one does.
func through[T any](a, b [axes]T, f func(a, b T) (T, api.Errno)) ([axes]T, api.Errno) {
	var made [axes]T
	for i := range made {
		number, e := f(a[i], b[i])
		if e != api.OK {
			return [axes]T{}, e
		}
		made[i] = number
	}
	return made, api.OK
}

// meanBy is the mean of y and v in which v weighs one of 2^s parts, rounded once. The sum is 2^s words, no word itself, but below 2^60 without its sign: it can't wrap.
func meanBy(s int) func(y, v int64) (int64, api.Errno) {
	parts := int64(1) << s
	return func(y, v int64) (int64, api.Errno) {
		return fx.Ratio((parts-1)*y+v, parts)
	}
}
