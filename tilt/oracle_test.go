package tilt_test

import (
	"math/big"

	"gimbal/api"
)

// What Take must tell, reckoned in another way: the exact sum of products is held against the middle below the limit, and Since is moved on instead of taken from now.

func isTime(t int64) bool { return 0 <= t && t <= clock }

func isNumber(n int64) bool { return -two <= n && n <= two }

func isVec(v api.Vec) bool { return isNumber(v.X) && isNumber(v.Y) && isNumber(v.Z) }

func isState(t api.Tilt) bool {
	if t.On && t.Away {
		return isVec(t.Ref) && isTime(t.Since)
	}
	if t.On {
		return isVec(t.Ref) && t.Since == 0
	}
	return t.Ref.X == 0 && t.Ref.Y == 0 && t.Ref.Z == 0 && t.Since == 0 && !t.Away
}

// isNear tells whether R(a b / 2^30) is at least the limit: since the limit is even, whether a b / 2^30 is at least the limit less a half.
func isNear(a, b api.Vec) bool {
	sum := new(big.Int)
	for _, p := range [][2]int64{{a.X, b.X}, {a.Y, b.Y}, {a.Z, b.Z}} {
		x := big.NewInt(p[0])
		sum.Add(sum, x.Mul(x, big.NewInt(p[1])))
	}
	middle := big.NewInt(2*limit - 1)
	return sum.Cmp(middle.Lsh(middle, 29)) >= 0
}

func wantTake(t api.Tilt, u api.Vec, now int64) answer {
	if !isState(t) || !isVec(u) || !isTime(now) || t.Since > now {
		return bad(api.ErrForm)
	}
	if !t.On {
		return quiet(near(u))
	}
	if isNear(t.Ref, u) {
		return quiet(near(t.Ref))
	}
	if !t.Away {
		return quiet(away(t.Ref, now))
	}
	if t.Since+2000 > now {
		return quiet(away(t.Ref, t.Since))
	}
	return tells(u)
}
