package trig_test

import (
	"math/big"
	"sync"
)

// The tests reckon with fractions of 320 bits; what is rounded off of them is far below all that they are asked for.
const places = 320

func whole(v int64) *big.Int { return big.NewInt(v) }

// inverse is arctan(1 / n): 1/n - 1/(3 n^3) + 1/(5 n^5) ..
func inverse(n int64) *big.Int {
	power := new(big.Int).Quo(new(big.Int).Lsh(whole(1), places), whole(n))
	sum := new(big.Int)
	for k := int64(1); power.Sign() != 0; k += 2 {
		term := new(big.Int).Quo(power, whole(k))
		if k%4 == 1 {
			sum.Add(sum, term)
		} else {
			sum.Sub(sum, term)
		}
		power.Quo(power, whole(n*n))
	}
	return sum
}

// fullTurn is 2 pi, by another sum of arctangents than the program's: pi / 4 is 12 arctan(1/18) + 8 arctan(1/57) - 5 arctan(1/239).
var fullTurn = sync.OnceValue(func() *big.Int {
	sum := new(big.Int).Mul(inverse(18), whole(96))
	sum.Add(sum, new(big.Int).Mul(inverse(57), whole(64)))
	return sum.Sub(sum, new(big.Int).Mul(inverse(239), whole(40)))
})

// turned is the sine and the cosine of a count of 2^-33 turns: halves of the units in which angles are told.
func turned(halves int64) (sine, cosine *big.Int) {
	x := new(big.Int).Mul(fullTurn(), whole(halves))
	x.Rsh(x, 33)
	term := new(big.Int).Lsh(whole(1), places)
	sums := [4]*big.Int{new(big.Int), new(big.Int), new(big.Int), new(big.Int)}
	for n := int64(1); term.Sign() != 0 && term.Cmp(whole(-1)) != 0; n++ {
		sums[(n-1)%4].Add(sums[(n-1)%4], term)
		term = new(big.Int).Mul(term, x)
		term.Rsh(term, places)
		term.Quo(term, whole(n))
	}
	return sums[1].Sub(sums[1], sums[3]), sums[0].Sub(sums[0], sums[2])
}

// inQ30 is R(v 2^30); none of those that are asked for is just between two whole numbers.
func inQ30(v *big.Int) int64 {
	up := new(big.Int).Add(v, new(big.Int).Lsh(whole(1), places-31))
	return up.Rsh(up, places-30).Int64()
}

// side is above 0, if the point lies, seen from the direction of so many halves, less than half a turn further; below 0, if less than half a turn back.
func side(y, x, halves int64) int {
	sine, cosine := turned(halves)
	sine.Mul(sine, whole(x))
	cosine.Mul(cosine, whole(y))
	return cosine.Cmp(sine)
}

// isAngle tells if a is the angle of the point: at most half a unit off it. A point is never just half a unit off.
func isAngle(a uint32, y, x int64) bool {
	sine, cosine := turned(2 * int64(a))
	sine.Mul(sine, whole(y))
	cosine.Mul(cosine, whole(x))
	ahead := cosine.Add(cosine, sine).Sign() > 0 // else the point lies on the other side of the origin
	return ahead && side(y, x, 2*int64(a)-1) > 0 && side(y, x, 2*int64(a)+1) < 0
}
