package quat

import (
	"cmp"

	"gimbal/api"
	"gimbal/fx"
	"gimbal/wide"
)

// four is one of a kind for each of a quaternion's numbers: the number, a wide one that becomes it, a row of a product.
type four[T any] [4]T

// of is the quaternion's numbers in their order.
func of(q api.Quat) four[int64] {
	return four[int64]{q.W, q.X, q.Y, q.Z}
}

func asQuat(q four[int64], e api.Errno) (api.Quat, api.Errno) {
	return api.Quat{W: q[0], X: q[1], Y: q[2], Z: q[3]}, e
}

func check(q four[int64]) api.Errno {
	return cmp.Or(fx.Check(q[0]), fx.Check(q[1]), fx.Check(q[2]), fx.Check(q[3]))
}

// through rounds each number by what round makes of it; all of it fails, if one result is no word.
func through[T any](q four[T], round func(T) wide.Int) (four[int64], api.Errno) {
	var told four[int64]
	for i, v := range q {
		number, e := round(v).Word()
		if e != api.OK {
			return four[int64]{}, e
		}
		told[i] = number
	}
	return told, api.OK
}

func inQ30(v wide.Int) wide.Int {
	return v.Nearest(wide.Point)
}

func conj(q four[int64]) four[int64] {
	return four[int64]{q[0], -q[1], -q[2], -q[3]}
}
