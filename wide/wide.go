// Package wide: whole numbers that are wider than words, for sums of products that are rounded once, at their end.
package wide

import (
	"math/bits"

	"gimbal/api"
	"gimbal/fx"
)

const (
	limbs    = 3
	limbBits = 64
)

// Int is a whole number from -2^191 to below 2^191: the lowest limb first, in two's complement. What is reckoned of such numbers is told modulo 2^192: whoever calls knows that it fits.
type Int [limbs]uint64

// Of is v itself.
func Of(v int64) Int {
	sign := uint64(v >> (limbBits - 1))
	return Int{uint64(v), sign, sign}
}

// Product is a b, exactly.
func Product(a, b int64) Int {
	return Of(a).By(b)
}

// Sum is the sum of the products of numbers that stand side by side, as times makes them: of words by Product, of numbers that are wide already by Int.By. Both lists are as long.
func Sum[T any](a []T, b []int64, times func(T, int64) Int) Int {
	total := Int{}
	for i, v := range a {
		total = total.Plus(times(v, b[i]))
	}
	return total
}

func (a Int) Plus(b Int) Int {
	carry := uint64(0)
	for i := range a {
		a[i], carry = bits.Add64(a[i], b[i], carry)
	}
	return a
}

func (a Int) Minus(b Int) Int {
	borrow := uint64(0)
	for i := range a {
		a[i], borrow = bits.Sub64(a[i], b[i], borrow)
	}
	return a
}

func (a Int) Neg() Int {
	return Int{}.Minus(a)
}

func (a Int) Times(k uint64) Int {
	carry := uint64(0)
	for i := range a {
		high, low := bits.Mul64(a[i], k)
		sum, over := bits.Add64(low, carry, 0)
		a[i], carry = sum, high+over
	}
	return a
}

// By is a k. Times takes no sign, and of the least int64 the negative wraps to 2^63, which is its size.
func (a Int) By(k int64) Int {
	if k < 0 {
		return a.Times(uint64(-k)).Neg()
	}
	return a.Times(uint64(k))
}

// Sign is -1 below 0, 0 at 0, 1 above it.
func (a Int) Sign() int {
	if a == (Int{}) {
		return 0
	}
	if a[limbs-1]>>(limbBits-1) == 1 {
		return -1
	}
	return 1
}

// Word tells a, if it is a word.
func (a Int) Word() (int64, api.Errno) {
	v := int64(a[0])
	if Of(v) != a || fx.Check(v) != api.OK {
		return 0, api.ErrRange
	}
	return v, api.OK
}
