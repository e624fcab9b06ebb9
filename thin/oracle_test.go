package thin_test

import (
	"math/big"

	"gimbal/api"
)

// What Take must tell, reckoned as the document writes it, in numbers of any length.

func isBelow(v int64, power uint) bool {
	return big.NewInt(v).CmpAbs(new(big.Int).Lsh(big.NewInt(1), power)) < 0
}

func areBelow(v api.Vec, power uint) bool {
	return isBelow(v.X, power) && isBelow(v.Y, power) && isBelow(v.Z, power)
}

// rounded is R(n / d), d above 0: reckoned as floor((2 n + d) / (2 d)), one less if that was a half above an even number.
func rounded(n *big.Int, d int64) *big.Int {
	up := new(big.Int).Lsh(n, 1)
	up.Add(up, big.NewInt(d))
	q, rest := new(big.Int).DivMod(up, big.NewInt(2*d), new(big.Int))
	if rest.Sign() == 0 && q.Bit(0) == 1 {
		q.Sub(q, big.NewInt(1))
	}
	return q
}

func isHowFar(t api.Thin) bool {
	if t.N < 0 || t.N > 255 || !areBelow(t.Sum, 53) {
		return false
	}
	return t.N != 0 || t.Sum == api.Vec{}
}

func wantTake(t api.Thin, k int, v api.Vec) answer {
	if !isHowFar(t) || k < 1 || k > 256 || !areBelow(v, 45) {
		return bad(api.ErrForm)
	}
	var sum, m api.Vec
	n, isOut := t.N+1, false
	for i, number := range numbers(&v) {
		total := new(big.Int).Add(big.NewInt(*numbers(&t.Sum)[i]), big.NewInt(*number))
		*numbers(&sum)[i] = total.Int64()
		mean := rounded(total, int64(n))
		*numbers(&m)[i] = mean.Int64()
		isOut = isOut || !mean.IsInt64() || !isBelow(mean.Int64(), 45)
	}
	if n < k {
		return more(sum, n)
	}
	if isOut {
		return bad(api.ErrRange)
	}
	return tells(m)
}
