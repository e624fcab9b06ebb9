package vec

import (
	"gimbal/api"
	"gimbal/wide"
)

// point is how many bits a word in Q30 has behind its point.
const point = 30

// sum is the sum of products of two vectors' numbers, exactly: below 2^92 without its sign.
func sum(a, b three[int64]) wide.Int {
	total := wide.Int{}
	for i := range a {
		total = total.Plus(wide.Product(a[i], b[i]))
	}
	return total
}

func inQ30(a, b three[int64]) (int64, api.Errno) {
	return sum(a, b).Nearest(point).Word()
}

func length(a three[int64]) (int64, api.Errno) {
	return wide.Root(sum(a, a), wide.Of(1)).Word()
}

// unit makes each number v the root of v^2 2^60 over the sum of the squares, with v's sign. a is not 0.
func unit(a three[int64]) (api.Vec, api.Errno) {
	squares := sum(a, a)
	return through(a, func(v int64) (int64, api.Errno) {
		part := wide.Root(wide.Product(v, v).Times(1<<(2*point)), squares)
		if v < 0 {
			part = part.Neg()
		}
		return part.Word()
	})
}
