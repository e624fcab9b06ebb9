package split

import (
	"math/bits"

	"gimbal/limb"
)

// fold is how far up the pressure falls to one part in e.
const fold = 8434500

// height is how far up the pressure falls from p0 to p, which is not above it. It never lies just between two whole numbers: ln of a fraction is irrational, but for that of 1, which is 0. So Settle ends.
func height(p, p0 uint64) int64 {
	return int64(limb.Settle(func(limbs int) limb.Span {
		return logarithm(p0, p, limbs).Scale(fold)
	}))
}

// Both logarithm and artanh tell an interval, with so many limbs behind the point.

// logarithm of n / d, n being not below d. The doublings in it are split off, so that what is left is below 2; of each part ln v is 2 artanh((v - 1) / (v + 1)), which is quick there: of 2 it is 2 artanh(1/3).
func logarithm(n, d uint64, limbs int) limb.Span {
	k := doublings(n, d)
	d <<= k
	left := artanh(n-d, n+d, limbs)
	return artanh(1, 3, limbs).Scale(uint64(k)).Plus(left).Scale(2)
}

// artanh of z = y / x, at most 1 / 3: it is z + z^3 / 3 + z^5 / 5 .., whose term n is z^2 (2n - 1) / (2n + 1) times the one ahead of it.
func artanh(y, x uint64, limbs int) limb.Span {
	z := limb.Fraction(y, x, limbs)
	square := z.Times(z)
	even, odd := limb.Sum(z, func(term limb.Span, n uint64) limb.Span {
		return term.Times(square).Scale(2*n - 1).Part(2*n + 1)
	})
	return even.Plus(odd)
}

// doublings is how often d, which is not above n, can be doubled and is not above n still.
func doublings(n, d uint64) int {
	k := bits.Len64(n) - bits.Len64(d)
	if d<<k > n {
		return k - 1
	}
	return k
}
