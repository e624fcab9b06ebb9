package learn_test

import (
	"math/big"

	"gimbal/api"
)

// What the calls must tell, reckoned as the document writes it, in numbers of any length.

func isWithin(v, limit int64) bool { return big.NewInt(v).CmpAbs(big.NewInt(limit)) < 0 }

func isVector(v api.Vec) bool {
	return isWithin(v.X, 1<<45) && isWithin(v.Y, 1<<45) && isWithin(v.Z, 1<<45)
}

func isLearn(l api.Learn) bool {
	if !isVector(l.Bias) || l.N < 0 || l.N >= 32 {
		return false
	}
	if l.N == 0 {
		return l.Sum == api.Vec{}
	}
	return isWithin(l.Sum.X, 1<<51) && isWithin(l.Sum.Y, 1<<51) && isWithin(l.Sum.Z, 1<<51)
}

// rounded is R(sum / 32): reckoned as floor(sum / 32 + 1/2), one less if that was a half above an even number.
func rounded(sum int64) int64 {
	up := new(big.Int).Add(big.NewInt(sum), big.NewInt(16))
	q, rest := new(big.Int).DivMod(up, big.NewInt(32), new(big.Int))
	if rest.Sign() == 0 && q.Bit(0) == 1 {
		q.Sub(q, big.NewInt(1))
	}
	return q.Int64()
}

func wantTake(l api.Learn, v api.Vec) answer {
	if !isLearn(l) || !isVector(v) {
		return bad(api.ErrForm)
	}
	want := answer{l: l}
	bias, sum := numbers(&want.l.Bias), numbers(&want.l.Sum)
	for i, given := range numbers(&v) {
		if !isWithin(*given-*bias[i], 1<<20+1) {
			return anew(l.Bias)
		}
		*sum[i] += *given
	}
	want.l.N++
	if want.l.N < 32 {
		return want
	}
	for i := range bias {
		*bias[i] = rounded(*sum[i])
	}
	if !isVector(want.l.Bias) {
		return bad(api.ErrRange)
	}
	return learned(want.l.Bias)
}

// meanOf is what 32 samples make of a bias.
func meanOf(samples []api.Vec) api.Vec {
	var sum api.Vec
	for _, v := range samples {
		sum = v3(sum.X+v.X, sum.Y+v.Y, sum.Z+v.Z)
	}
	return v3(rounded(sum.X), rounded(sum.Y), rounded(sum.Z))
}
