package split_test

import (
	"math/big"

	"gimbal/api"
	"gimbal/trig"
)

// What the calls must tell, reckoned in numbers of any length.

func num(v int64) *big.Int { return big.NewInt(v) }

func power(n uint) *big.Int { return new(big.Int).Lsh(num(1), n) }

func by(a, b *big.Int) *big.Int { return new(big.Int).Mul(a, b) }

// rounded is R(n / d), d above 0: what is left of twice n, moved on by d, tells a half.
func rounded(n, d *big.Int) *big.Int {
	up := new(big.Int).Add(by(n, num(2)), d)
	q, rest := new(big.Int).DivMod(up, by(d, num(2)), new(big.Int))
	if rest.Sign() == 0 && q.Bit(0) == 1 {
		q.Sub(q, num(1))
	}
	return q
}

func isWord(v *big.Int) bool { return v.CmpAbs(power(45)) < 0 }

// lengthOf is the sum of the squares.
func lengthOf(q api.Quat) *big.Int {
	sum := new(big.Int)
	for _, v := range []int64{q.W, q.X, q.Y, q.Z} {
		sum.Add(sum, by(num(v), num(v)))
	}
	return sum
}

func isOne(q api.Quat) bool {
	low, high := num(one-4), num(one+4)
	n := lengthOf(q)
	return n.Cmp(by(low, low)) >= 0 && n.Cmp(by(high, high)) <= 0
}

// inQ30 are parts of n, rounded. For an orientation they are below 2^62.
func inQ30(n *big.Int, parts ...int64) []*big.Int {
	var list []*big.Int
	for _, v := range parts {
		list = append(list, rounded(by(num(v), power(30)), n))
	}
	return list
}

// upOf is the last row of the matrix that turns as q does: where the world's z lies in the device's axes.
func upOf(q api.Quat) []*big.Int {
	w, x, y, z := q.W, q.X, q.Y, q.Z
	return inQ30(lengthOf(q), 2*(x*z-w*y), 2*(y*z+w*x), w*w-x*x-y*y+z*z)
}

// aheadOf is the middle column of it: where the device's y lies in the world's axes.
func aheadOf(q api.Quat) []*big.Int {
	w, x, y, z := q.W, q.X, q.Y, q.Z
	return inQ30(lengthOf(q), 2*(x*y-w*z), w*w-x*x+y*y-z*z, 2*(y*z+w*x))
}

func wantGravity(f api.Fuse) answer {
	if !isOne(f.Q) {
		return bad(api.ErrForm)
	}
	var list []int64
	for _, u := range upOf(f.Q) {
		list = append(list, rounded(by(u, num(g)), power(30)).Int64())
	}
	return good(list[0], list[1], list[2])
}

func wantLinear(f api.Fuse, a api.Vec) answer {
	gravity := wantGravity(f)
	if gravity.e != api.OK {
		return gravity
	}
	told := answer{}
	for i, v := range numbers(&a) {
		if !isWord(num(*v)) {
			return bad(api.ErrForm)
		}
		rest := new(big.Int).Sub(num(*v), num(*numbers(&gravity.v)[i]))
		if !isWord(rest) {
			told.e = api.ErrRange
		}
		*numbers(&told.v)[i] = rest.Int64()
	}
	if told.e != api.OK {
		return bad(told.e)
	}
	return told
}

func wantHeading(f api.Fuse) angle {
	if !isOne(f.Q) {
		return angle{e: api.ErrForm}
	}
	h := aheadOf(f.Q)
	a, e := trig.Atan(h[0].Int64(), h[1].Int64())
	return angle{a, e}
}

// places is how many bits the powers of e have behind the point. What is rounded off of them is far below all that they are asked for.
const places = 320

// powerOfE is e^(halves / (2 8434500)).
func powerOfE(halves int64) *big.Int {
	sum, term := new(big.Int), power(places)
	for n := int64(1); term.Sign() != 0; n++ {
		sum.Add(sum, term)
		term = new(big.Int).Quo(by(term, num(halves)), num(2*8434500*n))
	}
	return sum
}

// side is above 0, if p0 / p lies above what so many halves of an altitude make of it, else below 0; it is 0 for no altitude and p as p0 alone.
func side(p, p0, halves int64) int {
	return new(big.Int).Lsh(num(p0), places).Cmp(by(powerOfE(halves), num(p)))
}

// isAltitude tells if the altitude is at most half a unit off h. It is never just half a unit off.
func isAltitude(h, p, p0 int64) bool {
	return side(p, p0, 2*h-1) > 0 && side(p, p0, 2*h+1) < 0
}
