package fuse

import (
	"gimbal/api"
	"gimbal/vec"
)

// An orientation is from shortest to longest long: One, but for NormEps.
const (
	normEps  = 4
	shortest = api.One - normEps
	longest  = api.One + normEps
)

// gate is how far the length of an acceleration may be off from Gravity.
const gate = api.Gravity / 8

// isOrientation looks at each number ahead of its square: of four that are no longer than longest the squares are together below 2^63.
func isOrientation(q api.Quat) bool {
	squares := int64(0)
	for _, v := range numbersOf(q) {
		if v < -longest || v > longest {
			return false
		}
		squares += v * v
	}
	return squares >= shortest*shortest && squares <= longest*longest
}

func numbersOf(q api.Quat) [4]int64 {
	return [4]int64{q.W, q.X, q.Y, q.Z}
}

func isTicks(n int) bool {
	return n >= 0 && n <= api.MaxTicks
}

// angleOf is w, n times: a word at most MaxTicks times, which can't wrap.
func angleOf(w api.Vec, n int) api.Vec {
	k := int64(n)
	return api.Vec{X: k * w.X, Y: k * w.Y, Z: k * w.Z}
}

func isSpin(angle api.Vec) bool {
	return isRadian(angle.X) && isRadian(angle.Y) && isRadian(angle.Z)
}

func isRadian(v int64) bool {
	return v >= -api.One && v <= api.One
}

// isGravity is false of a vector whose length is no word, too: it is far above the gate.
func isGravity(a api.Vec) bool {
	n, e := vec.Norm(a)
	return e == api.OK && n >= api.Gravity-gate && n <= api.Gravity+gate
}
