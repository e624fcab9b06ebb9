package limb

import (
	"cmp"
	"math"
	"math/bits"
)

// limbBits is how many bits a limb has.
const limbBits = 64

// natural is a whole number not below 0: the lowest limb first, the last one not 0. No method writes into what it is given, so that numbers may share their limbs.
type natural []uint64

func (a natural) trim() natural {
	for len(a) > 0 && a[len(a)-1] == 0 {
		a = a[:len(a)-1]
	}
	return a
}

func (a natural) compare(b natural) int {
	if len(a) != len(b) {
		return cmp.Compare(len(a), len(b))
	}
	for i := len(a) - 1; i >= 0; i-- {
		if a[i] != b[i] {
			return cmp.Compare(a[i], b[i])
		}
	}
	return 0
}

// at is the limb at a place; above the last one there are zeros.
func (a natural) at(i int) uint64 {
	if i < len(a) {
		return a[i]
	}
	return 0
}

func (a natural) plus(b natural) natural {
	sum := make(natural, max(len(a), len(b))+1)
	carry := uint64(0)
	for i := range sum {
		sum[i], carry = bits.Add64(a.at(i), b.at(i), carry)
	}
	return sum.trim()
}

// minus is the difference, or 0 if b is the greater one.
func (a natural) minus(b natural) natural {
	if a.compare(b) <= 0 {
		return nil
	}
	rest := make(natural, len(a))
	borrow := uint64(0)
	for i := range rest {
		rest[i], borrow = bits.Sub64(a[i], b.at(i), borrow)
	}
	return rest.trim()
}

func (a natural) times(b natural) natural {
	product := make(natural, len(a)+len(b))
	for i, x := range a {
		product[i+len(b)] = addRow(product[i:i+len(b)], b, x)
	}
	return product.trim()
}

// addRow adds x times b to a row as long as b, and tells what it carries. The carry has room: (2^64 - 1)^2 and twice 2^64 - 1 are together below 2^128.
func addRow(row, b natural, x uint64) uint64 {
	carry := uint64(0)
	for j, y := range b {
		high, low := bits.Mul64(x, y)
		low, over := bits.Add64(low, row[j], 0)
		high += over
		row[j], over = bits.Add64(low, carry, 0)
		carry = high + over
	}
	return carry
}

// up is a 2^n.
func (a natural) up(n int) natural {
	limbs, part := n/limbBits, n%limbBits
	moved := make(natural, len(a)+limbs+1)
	for i, x := range a {
		high, low := bits.Mul64(x, 1<<part)
		moved[i+limbs] |= low
		moved[i+limbs+1] = high
	}
	return moved.trim()
}

// down is a / 2^n, rounded down.
func (a natural) down(n int) natural {
	limbs, part := n/limbBits, n%limbBits
	if limbs >= len(a) {
		return nil
	}
	if part == 0 {
		return a[limbs:]
	}
	moved := make(natural, len(a)-limbs)
	for i := range moved {
		moved[i] = a[i+limbs]>>part | a.at(i+limbs+1)<<(limbBits-part)
	}
	return moved.trim()
}

// over is a / b, rounded down, and what is left. b is not 0.
func (a natural) over(b natural) (quotient, rest natural) {
	if a.compare(b) < 0 {
		return nil, a
	}
	if len(b) == 1 {
		return a.overLimb(b[0])
	}
	shift := bits.LeadingZeros64(b[len(b)-1]) // only below a divisor whose highest bit is set is a limb's guess good
	divisor := b.up(shift)
	rest = append(a.up(shift), 0)
	quotient = make(natural, len(rest)-len(divisor))
	for i := len(quotient) - 1; i >= 0; i-- {
		quotient[i] = takeAway(rest[i:i+len(divisor)+1], divisor)
	}
	return quotient.trim(), rest.trim().down(shift)
}

func (a natural) overLimb(d uint64) (quotient, rest natural) {
	quotient = make(natural, len(a))
	left := uint64(0)
	for i := len(a) - 1; i >= 0; i-- {
		quotient[i], left = bits.Div64(left, a[i], d)
	}
	return quotient.trim(), natural{left}.trim()
}

// takeAway takes the divisor from a window, which has one limb more, as often as it goes, which is below 2^64 times, and tells how often. The guess is too great by at most 2.
func takeAway(window, divisor natural) uint64 {
	held := window.trim()
	times := guess(window, divisor)
	taken := divisor.times(natural{times})
	for held.compare(taken) < 0 {
		times--
		taken = taken.minus(divisor)
	}
	left := held.minus(taken)
	clear(window)
	copy(window, left)
	return times
}

// guess holds the two highest limbs of a window against the highest one of the divisor.
func guess(window, divisor natural) uint64 {
	last := len(divisor) - 1
	if window[last+1] >= divisor[last] {
		return math.MaxUint64
	}
	times, _ := bits.Div64(window[last+1], window[last], divisor[last])
	return times
}

// nearest is R(a / 2^n).
func (a natural) nearest(n int) natural {
	whole := a.down(n)
	twice := a.minus(whole.up(n)).up(1)
	side := twice.compare(natural{1}.up(n))
	if side > 0 || side == 0 && whole.at(0)%2 == 1 {
		return whole.plus(natural{1})
	}
	return whole
}
