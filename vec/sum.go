package vec

import (
	"gimbal/api"
	"gimbal/wide"
)

// sum is the sum of products of two vectors' numbers, exactly: below 2^92 without its sign.
func sum(a, b three[int64]) wide.Int {
	return wide.Sum(a[:], b[:], wide.Product)
}

func inQ30(a, b three[int64]) (int64, api.Errno) {
	return sum(a, b).Nearest(wide.Point).Word()
}

func length(a three[int64]) (int64, api.Errno) {
	return wide.Root(sum(a, a), wide.Of(1)).Word()
}

// unit is of a vector that is not 0.
func unit(a three[int64]) (api.Vec, api.Errno) {
	squares := sum(a, a)
	return through(a, func(v int64) (int64, api.Errno) {
		return wide.Unit(v, squares).Word()
	})
}
