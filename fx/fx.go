// Package fx: words: see ../../shared/doc/01-fx.md.
package fx

import "gimbal/api"

// limit is the least whole number above 0 that is no word.
const limit = 1 << api.Bits

func Check(v int64) api.Errno {
	if v <= -limit || v >= limit {
		return api.ErrForm
	}
	return api.OK
}

func Add(a, b int64) (int64, api.Errno) {
	return operate(pair[int64]{a, b}, sum)
}

func Sub(a, b int64) (int64, api.Errno) {
	return operate(pair[int64]{a, b}, difference)
}

func Neg(a int64) (int64, api.Errno) {
	return operate(pair[int64]{0, a}, difference)
}

func Mul(a, b int64) (int64, api.Errno) {
	return operate(pair[int64]{a, b}, product)
}

func Div(a, b int64) (int64, api.Errno) {
	return operate(pair[int64]{a, b}, quotient)
}

// Ratio does not go through operate: what it is given need be no words.
func Ratio(n, d int64) (int64, api.Errno) {
	return share(pair[int64]{n, 1}, d)
}

func Sqrt(a int64) (int64, api.Errno) {
	if Check(a) != api.OK || a < 0 {
		return 0, api.ErrForm
	}
	return int64(rootDown(pair[uint64]{0, uint64(a)})), api.OK
}

func Root(a int64) (int64, api.Errno) {
	if Check(a) != api.OK || a < 0 {
		return 0, api.ErrForm
	}
	return int64(rootNearest(times(pair[uint64]{uint64(a), api.One}))), api.OK
}

func Clamp(v, lo, hi int64) (int64, api.Errno) {
	if Check(v) != api.OK || !words(pair[int64]{lo, hi}) || lo > hi {
		return 0, api.ErrForm
	}
	return max(lo, min(v, hi)), api.OK
}
