package thin

import "gimbal/api"

// axes is how many numbers a vector has.
const axes = 3

func numbersOf(a api.Vec) [axes]int64 {
	return [axes]int64{a.X, a.Y, a.Z}
}

func vectorOf(a [axes]int64) api.Vec {
	return api.Vec{X: a[0], Y: a[1], Z: a[2]}
}

// through is what f makes of both, number by number; all of it fails, if one does.
func through[T any](a, b [axes]T, f func(a, b T) (T, api.Errno)) ([axes]T, api.Errno) {
	var made [axes]T
	for i := range made {
		number, e := f(a[i], b[i])
		if e != api.OK {
			return [axes]T{}, e
		}
		made[i] = number
	}
	return made, api.OK
}
