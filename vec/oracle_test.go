package vec_test

import (
	"math/big"

	"gimbal/api"
)

// What the calls must tell, reckoned as the document writes it, in numbers of any length.

func num(v int64) *big.Int { return big.NewInt(v) }

func isWord(v int64) bool { return v > -1<<45 && v < 1<<45 }

func areWords(list ...int64) bool {
	for _, v := range list {
		if !isWord(v) {
			return false
		}
	}
	return true
}

func isVec(list ...api.Vec) bool {
	for _, a := range list {
		if !areWords(a.X, a.Y, a.Z) {
			return false
		}
	}
	return true
}

// sumOf is the sum of the products of numbers that stand side by side.
func sumOf(list ...int64) *big.Int {
	sum := new(big.Int)
	for i := 0; i < len(list); i += 2 {
		sum.Add(sum, new(big.Int).Mul(num(list[i]), num(list[i+1])))
	}
	return sum
}

// rounded is R(v / 2^30): reckoned as floor(v / 2^30 + 1/2), one less if that was a half above an even number.
func rounded(v *big.Int) *big.Int {
	sum := new(big.Int).Add(v, num(api.One/2))
	q, rest := new(big.Int).DivMod(sum, num(api.One), new(big.Int))
	if rest.Sign() == 0 && q.Bit(0) == 1 {
		q.Sub(q, num(1))
	}
	return q
}

// rootOf is R(the root of v), which is never just between two: the root of 4 v, rounded down, is twice the root with its first half.
func rootOf(v *big.Int) *big.Int {
	twice := new(big.Int).Sqrt(new(big.Int).Lsh(v, 2))
	return twice.Rsh(twice.Add(twice, num(1)), 1)
}

// unitPart is R(v 2^30 / the root of n), reckoned with 200 bits behind the point of the root: the quotient of v and a root is nowhere so near to the middle between two that this is not enough.
func unitPart(v int64, n *big.Int) *big.Int {
	root := new(big.Int).Sqrt(new(big.Int).Lsh(n, 400))
	scaled := new(big.Int).Lsh(num(v), 200+31)
	twice := new(big.Int).Quo(scaled.Abs(scaled), root)
	part := twice.Rsh(twice.Add(twice, num(1)), 1)
	if v < 0 {
		part.Neg(part)
	}
	return part
}

// numberOf tells a number of any length as a call must tell it.
func numberOf(v *big.Int) number {
	if v.CmpAbs(num(1<<45)) >= 0 {
		return number{0, api.ErrRange}
	}
	return number{v.Int64(), api.OK}
}

func vectorOf(x, y, z *big.Int) vector {
	told := [3]number{numberOf(x), numberOf(y), numberOf(z)}
	for _, n := range told {
		if n.e != api.OK {
			return vector{api.Vec{}, n.e}
		}
	}
	return good(told[0].v, told[1].v, told[2].v)
}

func wantAdd(a, b api.Vec) vector {
	if !isVec(a, b) {
		return bad(api.ErrForm)
	}
	return vectorOf(sumOf(a.X, 1, b.X, 1), sumOf(a.Y, 1, b.Y, 1), sumOf(a.Z, 1, b.Z, 1))
}

func wantSub(a, b api.Vec) vector {
	if !isVec(a, b) {
		return bad(api.ErrForm)
	}
	return vectorOf(sumOf(a.X, 1, b.X, -1), sumOf(a.Y, 1, b.Y, -1), sumOf(a.Z, 1, b.Z, -1))
}

func wantScale(a api.Vec, k int64) vector {
	if !isVec(a) || !isWord(k) {
		return bad(api.ErrForm)
	}
	return vectorOf(rounded(sumOf(a.X, k)), rounded(sumOf(a.Y, k)), rounded(sumOf(a.Z, k)))
}

func wantDot(a, b api.Vec) number {
	if !isVec(a, b) {
		return number{0, api.ErrForm}
	}
	return numberOf(rounded(sumOf(a.X, b.X, a.Y, b.Y, a.Z, b.Z)))
}

func wantCross(a, b api.Vec) vector {
	if !isVec(a, b) {
		return bad(api.ErrForm)
	}
	return vectorOf(
		rounded(sumOf(a.Y, b.Z, a.Z, -b.Y)),
		rounded(sumOf(a.Z, b.X, a.X, -b.Z)),
		rounded(sumOf(a.X, b.Y, a.Y, -b.X)))
}

func wantNorm(a api.Vec) number {
	if !isVec(a) {
		return number{0, api.ErrForm}
	}
	return numberOf(rootOf(sumOf(a.X, a.X, a.Y, a.Y, a.Z, a.Z)))
}

func wantUnit(a api.Vec) vector {
	if !isVec(a) {
		return bad(api.ErrForm)
	}
	n := sumOf(a.X, a.X, a.Y, a.Y, a.Z, a.Z)
	if n.Sign() == 0 {
		return bad(api.ErrZero)
	}
	return vectorOf(unitPart(a.X, n), unitPart(a.Y, n), unitPart(a.Z, n))
}

func wantApply(m [9]int64, a api.Vec) vector {
	if !areWords(m[:]...) || !isVec(a) {
		return bad(api.ErrForm)
	}
	return vectorOf(
		rounded(sumOf(m[0], a.X, m[1], a.Y, m[2], a.Z)),
		rounded(sumOf(m[3], a.X, m[4], a.Y, m[5], a.Z)),
		rounded(sumOf(m[6], a.X, m[7], a.Y, m[8], a.Z)))
}
