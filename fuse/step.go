package fuse

import (
	"gimbal/api"
	"gimbal/fx"
	"gimbal/quat"
)

// step is the orientation behind a product: what it is multiplied by, and how, is the business of each kind of step. The product is never 0, since what it is multiplied by is at least 1 long.
func step[T any](f api.Fuse, by T, times func(q api.Quat, by T) (api.Quat, api.Errno)) (api.Fuse, api.Errno) {
	product, e := times(f.Q, by)
	if e != api.OK {
		return api.Fuse{}, e
	}
	q, e := quat.Unit(product)
	return api.Fuse{Q: q}, e
}

// spun is q and what the angle adds to it: their product is rounded ahead of the sum, so that its halves go to the even one whatever q is.
func spun(q api.Quat, angle api.Vec) (api.Quat, api.Errno) {
	numbers := numbersOf(q)
	for i, p := range exactProduct(q, angle) {
		added, e := fx.Ratio(p, 2*api.One)
		if e != api.OK {
			return api.Quat{}, e
		}
		numbers[i] += added
	}
	return api.Quat{W: numbers[0], X: numbers[1], Y: numbers[2], Z: numbers[3]}, api.OK
}

// exactProduct is that of q and (0, v), exactly, for an orientation q and v of at most 2^30 in each number: so each of three terms is below 2^61, and their sum can't wrap.
func exactProduct(q api.Quat, v api.Vec) [4]int64 {
	return [4]int64{
		-q.X*v.X - q.Y*v.Y - q.Z*v.Z,
		q.W*v.X + q.Y*v.Z - q.Z*v.Y,
		q.W*v.Y - q.X*v.Z + q.Z*v.X,
		q.W*v.Z + q.X*v.Y - q.Y*v.X,
	}
}

// leaned is turned by c about the device's axes.
func leaned(q api.Quat, c api.Vec) (api.Quat, api.Errno) {
	return quat.Mul(q, api.Quat{W: api.One, X: c.X, Y: c.Y, Z: c.Z})
}

// swung is turned by c about the world's z.
func swung(q api.Quat, c int64) (api.Quat, api.Errno) {
	return quat.Mul(api.Quat{W: api.One, Z: c}, q)
}
