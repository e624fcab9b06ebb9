package wide

// Point is how many bits a word in Q30 has behind its point.
const Point = 30

// Nearest is R(a / 2^n), n being from 1 to 63. What is added ahead of rounding down carries to the next whole number from just above a half on, and from the half on, if the number below it is odd.
func (a Int) Nearest(n int) Int {
	odd := a[0] >> n & 1
	return a.Plus(Int{1<<(n-1) - 1 + odd}).down(n)
}

// down is a / 2^n, rounded down, n being from 1 to 63.
func (a Int) down(n int) Int {
	last := limbs - 1
	for i := range last {
		a[i] = a[i]>>n | a[i+1]<<(limbBits-n)
	}
	a[last] = uint64(int64(a[last]) >> n)
	return a
}

// Over is R(a / n), n being from 1 to below 2^92, a below 2^46 n without its sign. Of a negative it is the negative: a half goes to the even one on both sides of 0.
func (a Int) Over(n Int) Int {
	if a.Sign() < 0 {
		return a.Neg().Over(n).Neg()
	}
	low := greatest(func(v uint64) bool {
		return a.Minus(n.Times(v)).Sign() >= 0
	})
	// low + 1/2 is held against the quotient, both twice, times n
	return nearer(low, a.Times(2).Minus(n.Times(2*low+1)).Sign())
}

// Root is R(the root of p / n), p being from 0 to below 2^92 n, n from 1 to below 2^92.
func Root(p, n Int) Int {
	low := greatest(func(v uint64) bool {
		return p.Minus(n.Times(v).Times(v)).Sign() >= 0
	})
	// low + 1/2 is held against the root, both twice and squared, times n
	odd := 2*low + 1
	return nearer(low, p.Times(4).Minus(n.Times(odd).Times(odd)).Sign())
}

// Unit is R(v 2^30 / the root of n), for a word v and the sum n of the squares of words of which v is one: the root of v^2 2^60 / n, with v's sign. n is not 0.
func Unit(v int64, n Int) Int {
	size := Root(Product(v, v).Times(1<<(2*Point)), n)
	if v < 0 {
		return size.Neg()
	}
	return size
}

// roundBits is how many bits a quotient or a root has at most: the root of the sum of the squares of four words has no more.
const roundBits = 46

// greatest is the greatest number that is within, if each number below one that is within is, too: bit by bit, from the highest on.
func greatest(within func(uint64) bool) uint64 {
	found := uint64(0)
	for bit := uint64(1) << (roundBits - 1); bit > 0; bit >>= 1 {
		if within(found | bit) {
			found |= bit
		}
	}
	return found
}

// nearer is low, or the next one above it, by the side of the middle between them to which the true number lies: above 0 is above it.
func nearer(low uint64, side int) Int {
	if side > 0 || side == 0 && low%2 == 1 {
		low++
	}
	return Int{low}
}
