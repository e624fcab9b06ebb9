package quat

import (
	"gimbal/api"
	"gimbal/wide"
)

// product is p q, exactly, row by row: each row of p is summed with q, whose numbers are words, or wide ones that a product told.
func product[T any](p four[int64], q four[T], times func(T, int64) wide.Int) four[wide.Int] {
	var told four[wide.Int]
	for i, row := range rows(p) {
		told[i] = wide.Sum(q[:], row[:], times)
	}
	return told
}

// rows are p's numbers as they meet those of what it is multiplied with.
func rows(p four[int64]) four[four[int64]] {
	w, x, y, z := p[0], p[1], p[2], p[3]
	return four[four[int64]]{
		{w, -x, -y, -z},
		{x, w, -z, y},
		{y, z, w, -x},
		{z, -y, x, w},
	}
}

// squares is the sum of the squares, exactly: below 2^92.
func squares(q four[int64]) wide.Int {
	return wide.Sum(q[:], q[:], wide.Product)
}

// unit is of a quaternion that is not 0.
func unit(q four[int64]) (four[int64], api.Errno) {
	n := squares(q)
	return through(q, func(v int64) wide.Int {
		return wide.Unit(v, n)
	})
}

// turned is q (0, v) conj(q) over the sum of q's squares, which is not 0. Its W is exactly 0, and each other number is no longer than v, below 2^46: so the sums are below 2^139, and the quotients within what Over takes.
func turned(q four[int64], v api.Vec) (four[int64], api.Errno) {
	n := squares(q)
	behind := product(four[int64]{0, v.X, v.Y, v.Z}, conj(q), wide.Product)
	return through(product(q, behind, wide.Int.By), func(sum wide.Int) wide.Int {
		return sum.Over(n)
	})
}
