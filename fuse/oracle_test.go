package fuse_test

import (
	"math/big"

	"gimbal/api"
)

// What the calls must tell, reckoned as the document writes it, in numbers of any length.

func num(v int64) *big.Int { return big.NewInt(v) }

func power(n uint) *big.Int { return new(big.Int).Lsh(num(1), n) }

func minus(v *big.Int) *big.Int { return new(big.Int).Neg(v) }

func longs(list ...int64) []*big.Int {
	var told []*big.Int
	for _, v := range list {
		told = append(told, num(v))
	}
	return told
}

func longQuat(q api.Quat) []*big.Int { return longs(q.W, q.X, q.Y, q.Z) }

func longVec(v api.Vec) []*big.Int { return longs(v.X, v.Y, v.Z) }

// sumOf is the sum of the products of numbers that stand side by side.
func sumOf(list ...*big.Int) *big.Int {
	sum := new(big.Int)
	for i := 0; i < len(list); i += 2 {
		sum.Add(sum, new(big.Int).Mul(list[i], list[i+1]))
	}
	return sum
}

func squaresOf(list []*big.Int) *big.Int {
	sum := new(big.Int)
	for _, v := range list {
		sum.Add(sum, sumOf(v, v))
	}
	return sum
}

func productOf(p, q []*big.Int) []*big.Int {
	pw, px, py, pz := p[0], p[1], p[2], p[3]
	qw, qx, qy, qz := q[0], q[1], q[2], q[3]
	return []*big.Int{
		sumOf(pw, qw, minus(px), qx, minus(py), qy, minus(pz), qz),
		sumOf(pw, qx, px, qw, py, qz, minus(pz), qy),
		sumOf(pw, qy, minus(px), qz, py, qw, pz, qx),
		sumOf(pw, qz, px, qy, minus(py), qx, pz, qw),
	}
}

func conjOf(q []*big.Int) []*big.Int {
	return []*big.Int{q[0], minus(q[1]), minus(q[2]), minus(q[3])}
}

func crossOf(a, b []*big.Int) []*big.Int {
	return each([]*big.Int{
		sumOf(a[1], b[2], minus(a[2]), b[1]),
		sumOf(a[2], b[0], minus(a[0]), b[2]),
		sumOf(a[0], b[1], minus(a[1]), b[0]),
	}, power(30))
}

// rounded is R(n / d), d above 0: reckoned as floor((2 n + d) / (2 d)), one less if that was a half above an even number.
func rounded(n, d *big.Int) *big.Int {
	up := new(big.Int).Lsh(n, 1)
	up.Add(up, d)
	q, rest := new(big.Int).DivMod(up, new(big.Int).Lsh(d, 1), new(big.Int))
	if rest.Sign() == 0 && q.Bit(0) == 1 {
		q.Sub(q, num(1))
	}
	return q
}

// each is R(v / d) of all of them.
func each(list []*big.Int, d *big.Int) []*big.Int {
	var told []*big.Int
	for _, v := range list {
		told = append(told, rounded(v, d))
	}
	return told
}

// unitOf is each R(v 2^30 / the root of the sum of the squares), with 200 bits behind the point of the root: over an irrational one nothing is so near to the middle between two that this is not enough.
func unitOf(list []*big.Int) []*big.Int {
	root := new(big.Int).Sqrt(new(big.Int).Lsh(squaresOf(list), 400))
	var told []*big.Int
	for _, v := range list {
		told = append(told, rounded(new(big.Int).Lsh(v, 230), root))
	}
	return told
}

// turnOf is q (0, v) conj(q) over the sum of q's squares, each number rounded.
func turnOf(q, v []*big.Int) []*big.Int {
	behind := productOf(productOf(q, append(longs(0), v...)), conjOf(q))
	return each(behind[1:], squaresOf(q))
}

// normOf is R(the root of the sum of the squares): twice the root, rounded down, is odd where the root is above the middle.
func normOf(v []*big.Int) *big.Int {
	twice := new(big.Int).Sqrt(new(big.Int).Lsh(squaresOf(v), 2))
	return twice.Rsh(twice.Add(twice, num(1)), 1)
}

func areWords(list []*big.Int) bool {
	for _, v := range list {
		if v.CmpAbs(power(45)) >= 0 {
			return false
		}
	}
	return true
}

func isOne(q []*big.Int) bool {
	low, high := num(1<<30-4), num(1<<30+4)
	n := squaresOf(q)
	return areWords(q) && n.Cmp(sumOf(low, low)) >= 0 && n.Cmp(sumOf(high, high)) <= 0
}

func told(q []*big.Int) answer {
	return good(q[0].Int64(), q[1].Int64(), q[2].Int64(), q[3].Int64())
}

func wantSpin(f api.Fuse, w api.Vec, n int) answer {
	q, rates := longQuat(f.Q), longVec(w)
	if !isOne(q) || !areWords(rates) || n < 0 || n > 1000 {
		return bad(api.ErrForm)
	}
	angle := longs(0)
	for _, v := range rates {
		turned := sumOf(v, num(int64(n)))
		if turned.CmpAbs(power(30)) > 0 {
			return bad(api.ErrRange)
		}
		angle = append(angle, turned)
	}
	for i, v := range each(productOf(q, angle), power(31)) {
		q[i].Add(q[i], v)
	}
	return told(unitOf(q))
}

func wantUp(f api.Fuse, a api.Vec) answer {
	q, measured := longQuat(f.Q), longVec(a)
	if !isOne(q) || !areWords(measured) {
		return bad(api.ErrForm)
	}
	if n := normOf(measured); n.Cmp(num(8580819)) < 0 || n.Cmp(num(11032481)) > 0 {
		return told(q)
	}
	u := turnOf(conjOf(q), longs(0, 0, 1<<30))
	off := crossOf(unitOf(measured), u)
	c := append(longs(1<<30), each(off, num(128))...)
	return told(unitOf(each(productOf(q, c), power(30))))
}

func wantNorth(f api.Fuse, m api.Vec) answer {
	q, field := longQuat(f.Q), longVec(m)
	if !isOne(q) || !areWords(field) {
		return bad(api.ErrForm)
	}
	h := turnOf(q, field)
	if !areWords(h) {
		return bad(api.ErrRange)
	}
	if h[0].Sign() == 0 && h[1].Sign() == 0 {
		return told(q)
	}
	side := unitOf(h[:2])[0]
	c := append(longs(1<<30, 0, 0), rounded(side, num(128)))
	return told(unitOf(each(productOf(c, q), power(30))))
}
