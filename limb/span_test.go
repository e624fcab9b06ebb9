package limb

import (
	"math/big"
	"testing"
)

// holds tells if a fraction lies in the interval, and the interval is no wider than so many units.
func holds(t *testing.T, name string, s Span, want *big.Rat, units int64) {
	t.Helper()
	unit := new(big.Int).Lsh(big.NewInt(1), uint(limbBits*s.point))
	low := new(big.Rat).SetFrac(toBig(s.low), unit)
	high := new(big.Rat).SetFrac(toBig(s.high), unit)
	if low.Cmp(want) > 0 || high.Cmp(want) < 0 {
		t.Errorf("%s with %d limbs: %v not from %v to %v", name, s.point, want, low, high)
	}
	if width := new(big.Int).Sub(toBig(s.high), toBig(s.low)); width.Cmp(big.NewInt(units)) > 0 {
		t.Errorf("%s with %d limbs: %v units wide", name, s.point, width)
	}
}

func TestSpansHoldWhatTheyTell(t *testing.T) {
	for _, point := range []int{1, 2, 3, 8} {
		for _, c := range [][4]int64{{1, 3, 1, 7}, {2, 3, 2, 3}, {5, 1, 1, 1 << 40}, {1 << 44, 3, 1, 1 << 44}, {7, 2, 3, 2}, {0, 1, 1, 1}} {
			a, b := big.NewRat(c[0], c[1]), big.NewRat(c[2], c[3])
			s, u := Fraction(uint64(c[0]), uint64(c[1]), point), Fraction(uint64(c[2]), uint64(c[3]), point)
			holds(t, "fraction", s, a, 1)
			holds(t, "plus", s.Plus(u), new(big.Rat).Add(a, b), 2)
			holds(t, "times", s.Times(u), new(big.Rat).Mul(a, b), 1<<46)
			holds(t, "scale", s.Scale(1000), new(big.Rat).Mul(a, big.NewRat(1000, 1)), 1000)
			holds(t, "part", s.Part(1000), new(big.Rat).Mul(a, big.NewRat(1, 1000)), 2)
			if difference := new(big.Rat).Sub(a, b); difference.Sign() >= 0 {
				holds(t, "minus", s.Minus(u), difference, 2)
			}
			if c[3] < 1000 {
				holds(t, "over", s.Over(u), new(big.Rat).Quo(a, b), 1<<48)
			}
		}
	}
}

func TestExactSpans(t *testing.T) {
	for _, point := range []int{1, 2, 5} {
		holds(t, "whole", Whole(12345, point), big.NewRat(12345, 1), 0)
		holds(t, "scaled", Whole(3, point).Scale(7), big.NewRat(21, 1), 0)
		holds(t, "none of it", Whole(3, point).Scale(0), new(big.Rat), 0)
		holds(t, "less itself", Fraction(1, 3, point).Minus(Fraction(1, 3, point)), new(big.Rat), 1)
	}
}

func TestEndsRound(t *testing.T) {
	for _, c := range []struct {
		s         Span
		low, high uint64
	}{
		{Whole(0, 1), 0, 0},
		{Whole(9, 3), 9, 9},
		{Fraction(1, 3, 1), 0, 0},
		{Fraction(5, 3, 2), 2, 2},
		{Fraction(1, 2, 2), 0, 1}, // the high end is the unit above the half
		{Fraction(1, 2, 1).Plus(Whole(1, 1)), 2, 2},
		{Span{natural{0, 1 << 63}, natural{0, 1 << 63}, 2}, 0, 0},
		{Span{natural{0, 1 << 63, 1}, natural{0, 1 << 63, 1}, 2}, 2, 2},
	} {
		if low, high := c.s.Ends(); low != c.low || high != c.high {
			t.Errorf("%v: %d, %d, not %d, %d", c.s, low, high, c.low, c.high)
		}
	}
}

// 1 + 1/4 + 1/16 .. is 4/3: the terms at even places are 16/15, the others 4/15.
func TestSum(t *testing.T) {
	for _, point := range []int{1, 2, 4} {
		even, odd := Sum(Whole(1, point), func(term Span, n uint64) Span { return term.Part(4) })
		holds(t, "even", even, big.NewRat(16, 15), 500)
		holds(t, "odd", odd, big.NewRat(4, 15), 500)
	}
	// Nothing is known of a first term but that it is at most 1: those behind it are together at most 1, too.
	unknown := Span{nil, natural{0, 1}, 1}
	even, odd := Sum(unknown, func(term Span, n uint64) Span { return term.Part(2) })
	if even.high.compare(natural{0, 2}) != 0 || odd.high.compare(natural{0, 1}) != 0 || len(even.low) != 0 || len(odd.low) != 0 {
		t.Errorf("what is unknown: %v, %v", even, odd)
	}
	var places []uint64
	Sum(Whole(1, 1), func(term Span, n uint64) Span {
		places = append(places, n)
		return term.Part(1 << 40)
	})
	if len(places) != 2 || places[0] != 1 || places[1] != 2 {
		t.Errorf("places: %v", places)
	}
	even, odd = Sum(Whole(0, 1), func(term Span, n uint64) Span { return term })
	holds(t, "nothing, even", even, new(big.Rat), 0)
	holds(t, "nothing, odd", odd, new(big.Rat), 0)
}

// ends is an interval of texts.
type ends [2]string

func (e ends) Ends() (string, string) { return e[0], e[1] }

func TestSettleNarrowsTillEndsAreOne(t *testing.T) {
	var asked []int
	got := Settle(func(limbs int) ends {
		asked = append(asked, limbs)
		if limbs < 8 {
			return ends{"low", "high"}
		}
		return ends{"one", "one"}
	})
	if got != "one" || len(asked) != 4 || asked[0] != 1 || asked[3] != 8 {
		t.Errorf("%q, asked with %v", got, asked)
	}
	// 1/2 + 2^-100 is above a half, which one limb can't tell.
	above := Settle(func(limbs int) Span {
		return Fraction(1, 2, limbs).Plus(Fraction(1, 1<<50, limbs).Part(1 << 50))
	})
	below := Settle(func(limbs int) Span {
		return Fraction(1, 2, limbs).Minus(Fraction(1, 1<<50, limbs).Part(1 << 50))
	})
	if above != 1 || below != 0 {
		t.Errorf("just above a half: %d, just below: %d", above, below)
	}
}
