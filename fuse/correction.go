package fuse

import (
	"gimbal/api"
	"gimbal/fx"
	"gimbal/quat"
	"gimbal/vec"
)

// gain is k: which part of what is off a correction takes back, in Q30.
const gain = 1 << 24

// halfGain makes v k / 2^31 a product in Q30: a quaternion holds half of the angle by which it turns.
const halfGain = gain / 2

// upward is what q is to be leaned by, so that what it shows as up comes nearer to a, which is not 0.
func upward(q api.Quat, a api.Vec) (api.Vec, api.Errno) {
	shown, e := quat.Back(q, api.Vec{Z: api.One})
	if e != api.OK {
		return api.Vec{}, e
	}
	measured, e := vec.Unit(a)
	if e != api.OK {
		return api.Vec{}, e
	}
	off, e := vec.Cross(measured, shown)
	if e != api.OK {
		return api.Vec{}, e
	}
	return vec.Scale(off, halfGain)
}

// northward is what an orientation is to be swung by, so that the level part of the field, which is not 0, comes nearer to y.
func northward(level api.Vec) (int64, api.Errno) {
	side, e := vec.Unit(level)
	if e != api.OK {
		return 0, e
	}
	return fx.Mul(side.X, halfGain)
}
