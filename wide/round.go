package wide

// Nearest is R(a / 2^n), n being from 1 to 63. What is added ahead of rounding down carries to the next whole number from just above a half on, and from the half on, if the number below it is odd.
func (a Int) Nearest(n int) Int {
	odd := a[0] >> n & 1
	return a.Plus(Int{1<<(n-1) - 1 + odd}).down(n)
}

// down is a / 2^n, rounded down, n being from 1 to 63.
func (a Int) down(n int) Int {
	last := limbs - 1
	for i := range last {
		a[i] = a[i]>>n | a[i+1]<<(limbBits-n)
	}
	a[last] = uint64(int64(a[last]) >> n)
	return a
}

// rootBits is how many bits a root has at most: that of the sum of the squares of four words has no more.
const rootBits = 46

// Root is R(the root of p / n), p being from 0 to below 2^92 n, n from 1 to below 2^92.
func Root(p, n Int) Int {
	root := rootDown(p, n)
	odd := 2*root + 1
	// root + 1/2 is held against the root, both twice and squared, times n
	side := p.Times(4).Minus(n.Times(odd).Times(odd)).Sign()
	if side > 0 || side == 0 && root%2 == 1 {
		root++
	}
	return Int{root}
}

// rootDown is the root of p / n, rounded down: bit by bit, from the highest on.
func rootDown(p, n Int) uint64 {
	root := uint64(0)
	for bit := uint64(1) << (rootBits - 1); bit > 0; bit >>= 1 {
		next := root | bit
		if p.Minus(n.Times(next).Times(next)).Sign() >= 0 {
			root = next
		}
	}
	return root
}
