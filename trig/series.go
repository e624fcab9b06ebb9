package trig

import "gimbal/limb"

// Each of these tells an interval, with so many limbs behind the point.

// pi is Machin's 16 arctan(1/5) - 4 arctan(1/239).
func pi(limbs int) limb.Span {
	return arctangent(1, 5, limbs).Scale(16).Minus(arctangent(1, 239, limbs).Scale(4))
}

// radians is the size of an angle in radians.
func radians(a uint32, limbs int) limb.Span {
	return pi(limbs).Scale(uint64(a)).Part(half)
}

// sine is x - x^3 / 3! + x^5 / 5! .. for an angle x up to an eighth of a turn.
func sine(a uint32, limbs int) limb.Span {
	x := radians(a, limbs)
	square := x.Times(x)
	even, odd := limb.Sum(x, func(term limb.Span, n uint64) limb.Span {
		return term.Times(square).Part(2 * n * (2*n + 1))
	})
	return even.Minus(odd)
}

// cosine is 1 - x^2 / 2! + x^4 / 4! .. for an angle x up to an eighth of a turn.
func cosine(a uint32, limbs int) limb.Span {
	x := radians(a, limbs)
	square := x.Times(x)
	even, odd := limb.Sum(limb.Whole(1, limbs), func(term limb.Span, n uint64) limb.Span {
		return term.Times(square).Part(2 * n * (2*n - 1))
	})
	return even.Minus(odd)
}

// arctangent of z = y / x, at most 1 / 2. With w = z^2 / (1 + z^2) it is Euler's series, whose terms are all positive: it begins with z / (1 + z^2), and term n is w 2n / (2n + 1) times the one ahead of it.
func arctangent(y, x uint64, limbs int) limb.Span {
	z := limb.Fraction(y, x, limbs)
	square := z.Times(z)
	more := square.Plus(limb.Whole(1, limbs))
	w := square.Over(more)
	even, odd := limb.Sum(z.Over(more), func(term limb.Span, n uint64) limb.Span {
		return term.Times(w).Scale(2 * n).Part(2*n + 1)
	})
	return even.Plus(odd)
}
