package fx

import "math/bits"

// size is v without its sign. It is unsigned, since the least int64 has no positive of its own kind: there -v wraps to v, whose bits are the size.
func size(v int64) uint64 {
	if v < 0 {
		return uint64(-v)
	}
	return uint64(v)
}

// times is the product of both, whole.
func times(p pair[uint64]) pair[uint64] {
	high, low := bits.Mul64(p.first, p.second)
	return pair[uint64]{high, low}
}

// nearest is R(n / d), or limit for all that is no word: bits.Div64 takes no quotient above 64 bits, and the greatest one would wrap when it is rounded up. d is not 0.
func nearest(n pair[uint64], d uint64) uint64 {
	if n.first >= d {
		return limit
	}
	q, rest := bits.Div64(n.first, n.second, d)
	if q >= limit {
		return limit
	}
	if rest > d-rest || rest == d-rest && q%2 == 1 {
		q++
	}
	return q
}

// rootBits is how many bits the root of a word in Q30 has at most: it is below 2^((45 + 30) / 2).
const rootBits = 38

// rootDown is the root of n, rounded down, for n below 2^(2 rootBits).
func rootDown(n pair[uint64]) uint64 {
	root := uint64(0)
	for bit := uint64(1) << (rootBits - 1); bit > 0; bit >>= 1 {
		next := root | bit
		if !below(n, times(pair[uint64]{next, next})) {
			root = next
		}
	}
	return root
}

// rootNearest is R(the root of n), for n below 2^(2 rootBits). With r the root rounded down, r + 1 is nearer if n is above (r + 1/2)^2, that is r (r + 1) + 1/4: for a whole n, above r (r + 1); and never are both as near.
func rootNearest(n pair[uint64]) uint64 {
	root := rootDown(n)
	if below(times(pair[uint64]{root, root + 1}), n) {
		root++
	}
	return root
}
