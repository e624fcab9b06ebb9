package cal_test

import (
	"math/big"

	"gimbal/api"
)

// What the calls must tell, reckoned as the document writes it, in numbers of any length.

func num(v int64) *big.Int { return big.NewInt(v) }

func isWord(v int64) bool { return v > -1<<45 && v < 1<<45 }

func areWords(list ...int64) bool {
	for _, v := range list {
		if !isWord(v) {
			return false
		}
	}
	return true
}

func isCal(c api.Cal) bool {
	return areWords(c.Bias.X, c.Bias.Y, c.Bias.Z, c.Heat.X, c.Heat.Y, c.Heat.Z) && areWords(c.M[:]...) && c.Ref >= -128 && c.Ref <= 127
}

func isRaw(r api.Raw) bool {
	for _, x := range []int{r.X, r.Y, r.Z} {
		if x < -1<<15 || x >= 1<<15 {
			return false
		}
	}
	return r.T >= -128 && r.T <= 127
}

// rounded is R(v / 2^30): reckoned as floor(v / 2^30 + 1/2), one less if that was a half above an even number.
func rounded(v *big.Int) *big.Int {
	sum := new(big.Int).Add(v, num(api.One/2))
	q, rest := new(big.Int).DivMod(sum, num(api.One), new(big.Int))
	if rest.Sign() == 0 && q.Bit(0) == 1 {
		q.Sub(q, num(1))
	}
	return q
}

// clearedOf is In - Bias - Heat (T - Ref) of one number.
func clearedOf(x int, bias, heat int64, warmth int) *big.Int {
	u := new(big.Int).Mul(num(1024), num(int64(x)))
	u.Sub(u, num(bias))
	return u.Sub(u, new(big.Int).Mul(num(heat), num(int64(warmth))))
}

func wantApply(c api.Cal, r api.Raw) vector {
	if !isCal(c) || !isRaw(r) {
		return bad(api.ErrForm)
	}
	u := []*big.Int{
		clearedOf(r.X, c.Bias.X, c.Heat.X, r.T-c.Ref),
		clearedOf(r.Y, c.Bias.Y, c.Heat.Y, r.T-c.Ref),
		clearedOf(r.Z, c.Bias.Z, c.Heat.Z, r.T-c.Ref),
	}
	var image [3]int64
	for i := range image {
		sum := new(big.Int)
		for j, v := range u {
			sum.Add(sum, new(big.Int).Mul(num(c.M[3*i+j]), v))
		}
		number := rounded(sum)
		if number.CmpAbs(num(1<<45)) >= 0 {
			return bad(api.ErrRange)
		}
		image[i] = number.Int64()
	}
	return good(image[0], image[1], image[2])
}
