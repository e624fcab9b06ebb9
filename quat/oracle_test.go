package quat_test

import (
	"math/big"

	"gimbal/api"
)

// What the calls must tell, reckoned as the document writes it, in numbers of any length.

// long is a quaternion of any length: W, X, Y, Z.
type long [4]*big.Int

func num(v int64) *big.Int { return big.NewInt(v) }

func longOf(list [4]int64) long {
	return long{num(list[0]), num(list[1]), num(list[2]), num(list[3])}
}

func minus(v *big.Int) *big.Int { return new(big.Int).Neg(v) }

func conjOf(q long) long { return long{q[0], minus(q[1]), minus(q[2]), minus(q[3])} }

// sumOf is the sum of the products of numbers that stand side by side.
func sumOf(list ...*big.Int) *big.Int {
	sum := new(big.Int)
	for i := 0; i < len(list); i += 2 {
		sum.Add(sum, new(big.Int).Mul(list[i], list[i+1]))
	}
	return sum
}

func productOf(p, q long) long {
	pw, px, py, pz := p[0], p[1], p[2], p[3]
	qw, qx, qy, qz := q[0], q[1], q[2], q[3]
	return long{
		sumOf(pw, qw, minus(px), qx, minus(py), qy, minus(pz), qz),
		sumOf(pw, qx, px, qw, py, qz, minus(pz), qy),
		sumOf(pw, qy, minus(px), qz, py, qw, pz, qx),
		sumOf(pw, qz, px, qy, minus(py), qx, pz, qw),
	}
}

func squaresOf(q long) *big.Int {
	return sumOf(q[0], q[0], q[1], q[1], q[2], q[2], q[3], q[3])
}

// rounded is R(v / n): what is left tells the nearer one, and the odd bit, where both are as near.
func rounded(v, n *big.Int) *big.Int {
	low, rest := new(big.Int).DivMod(v, n, new(big.Int))
	side := rest.Lsh(rest, 1).Cmp(n)
	if side > 0 || side == 0 && low.Bit(0) == 1 {
		low.Add(low, num(1))
	}
	return low
}

// unitPart is R(v 2^30 / the root of n), reckoned with 200 bits behind the point of the root: v over an irrational root is nowhere so near to the middle between two that this is not enough, and over a whole one never just there.
func unitPart(v, n *big.Int) *big.Int {
	root := new(big.Int).Sqrt(new(big.Int).Lsh(n, 400))
	size := rounded(new(big.Int).Lsh(new(big.Int).Abs(v), 230), root)
	if v.Sign() < 0 {
		return size.Neg(size)
	}
	return size
}

// answer is what a call tells: of a number the first of four, of a vector W is 0.
type answer struct {
	v [4]int64
	e api.Errno
}

func bad(e api.Errno) answer { return answer{e: e} }

func good(w, x, y, z int64) answer { return answer{[4]int64{w, x, y, z}, api.OK} }

func goodVec(x, y, z int64) answer { return good(0, x, y, z) }

// wordsOf tells numbers of any length as a call must tell them.
func wordsOf(list long) answer {
	var told answer
	for i, v := range list {
		if v.CmpAbs(num(1<<45)) >= 0 {
			return bad(api.ErrRange)
		}
		told.v[i] = v.Int64()
	}
	return told
}

func isWord(v int64) bool { return v > -1<<45 && v < 1<<45 }

func areWords(list ...[4]int64) bool {
	for _, q := range list {
		for _, v := range q {
			if !isWord(v) {
				return false
			}
		}
	}
	return true
}

func wantMul(p, q [4]int64) answer {
	if !areWords(p, q) {
		return bad(api.ErrForm)
	}
	exact := productOf(longOf(p), longOf(q))
	for i, v := range exact {
		exact[i] = rounded(v, num(api.One))
	}
	return wordsOf(exact)
}

func wantConj(q [4]int64) answer {
	if !areWords(q) {
		return bad(api.ErrForm)
	}
	return wordsOf(conjOf(longOf(q)))
}

func wantNorm(q [4]int64) answer {
	if !areWords(q) {
		return bad(api.ErrForm)
	}
	return wordsOf(long{rounded(squaresOf(longOf(q)), num(api.One)), num(0), num(0), num(0)})
}

func wantUnit(q [4]int64) answer {
	if !areWords(q) {
		return bad(api.ErrForm)
	}
	exact := longOf(q)
	n := squaresOf(exact)
	if n.Sign() == 0 {
		return bad(api.ErrZero)
	}
	for i, v := range exact {
		exact[i] = unitPart(v, n)
	}
	return wordsOf(exact)
}

// turnOf is of a vector with 0 ahead of it.
func turnOf(q long, v [4]int64) answer {
	n := squaresOf(q)
	if n.Sign() == 0 {
		return bad(api.ErrZero)
	}
	exact := productOf(productOf(q, longOf(v)), conjOf(q))
	for i, sum := range exact {
		exact[i] = rounded(sum, n)
	}
	return wordsOf(exact)
}

func wantTurn(q, v [4]int64) answer {
	if !areWords(q, v) {
		return bad(api.ErrForm)
	}
	return turnOf(longOf(q), v)
}

func wantBack(q, v [4]int64) answer {
	if !areWords(q, v) {
		return bad(api.ErrForm)
	}
	return turnOf(conjOf(longOf(q)), v)
}
