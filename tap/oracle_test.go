package tap_test

import (
	"math/big"

	"gimbal/api"
)

// What Take must tell, reckoned in another way: no root is taken, lengths are held against numbers by the squares of both, and times are moved on instead of their marks.

func isWord(v int64) bool { return v > -1<<45 && v < 1<<45 }

func isVec(v api.Vec) bool { return isWord(v.X) && isWord(v.Y) && isWord(v.Z) }

func isTime(t int64) bool { return 0 <= t && t <= clock }

func isMark(m int64) bool { return m == 0 || 1 <= m && m <= clock+1 }

func isState(t api.Tap) bool {
	if t.On {
		return isVec(t.Last) && isMark(t.Since) && isMark(t.Prev)
	}
	return t.Last.X == 0 && t.Last.Y == 0 && t.Last.Z == 0 && t.Since == 0 && t.Prev == 0
}

// isFarther tells whether R(the norm of b less a) is above n: whether the norm itself is above n and a half, which it never is just.
func isFarther(a, b api.Vec, n int64) bool {
	sum := new(big.Int)
	for _, d := range []int64{b.X - a.X, b.Y - a.Y, b.Z - a.Z} {
		twice := big.NewInt(2 * d)
		sum.Add(sum, twice.Mul(twice, twice))
	}
	side := big.NewInt(2*n + 1)
	return sum.Cmp(side.Mul(side, side)) > 0
}

func wantTake(t api.Tap, v api.Vec, now int64) answer {
	if !isState(t) || !isVec(v) || !isTime(now) || t.Since > now+1 || t.Prev > now+1 {
		return bad(api.ErrForm)
	}
	if !t.On {
		return quiet(resting(v, 0))
	}
	if isFarther(t.Last, v, top) { // so it is, too, if a number of the difference is no word
		return bad(api.ErrRange)
	}
	if isFarther(t.Last, v, g) {
		if t.Since != 0 {
			return quiet(jerking(v, t.Since, t.Prev))
		}
		return quiet(jerking(v, now+1, t.Prev))
	}
	if t.Since == 0 || t.Since+60 < now+1 {
		return quiet(resting(v, t.Prev))
	}
	if t.Prev == 0 || t.Prev+300 < now+1 {
		return tells(1, resting(v, now+1))
	}
	return tells(2, resting(v, 0))
}
