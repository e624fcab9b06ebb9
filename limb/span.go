// Package limb: numbers of as many limbs as are needed, and what is known of a real number: an interval that gets narrower till both its ends round to one.
package limb

// Span is an interval in which a real number lies that is not below 0. Its ends are counted in units of 2^(-64 point): with more limbs behind the point it is narrower. Spans that are reckoned with one another have the same point. Low ends are rounded down, high ends up.
type Span struct {
	low, high natural
	point     int
}

// Whole is the number v, exactly.
func Whole(v uint64, point int) Span {
	units := natural{v}.up(limbBits * point)
	return Span{units, units, point}
}

// Fraction is n / d. d is not 0.
func Fraction(n, d uint64, point int) Span {
	return Whole(n, point).Part(d)
}

func (s Span) Plus(t Span) Span {
	return Span{s.low.plus(t.low), s.high.plus(t.high), s.point}
}

// Minus is the difference of two numbers of which the second is not the greater one: what of the interval is below 0 is cut off.
func (s Span) Minus(t Span) Span {
	return Span{s.low.minus(t.high), s.high.minus(t.low), s.point}
}

func (s Span) Times(t Span) Span {
	low := s.low.times(t.low).down(limbBits * s.point)
	high := s.high.times(t.high).down(limbBits * s.point)
	return Span{low, next(high), s.point}
}

// Over is the quotient. The low end of t is not 0.
func (s Span) Over(t Span) Span {
	low, _ := s.low.up(limbBits * s.point).over(t.high)
	high, _ := s.high.up(limbBits * s.point).over(t.low)
	return Span{low, next(high), s.point}
}

// Scale is k times the number, exactly.
func (s Span) Scale(k uint64) Span {
	factor := natural{k}.trim()
	return Span{s.low.times(factor), s.high.times(factor), s.point}
}

// Part is one of k like parts of the number. k is not 0.
func (s Span) Part(k uint64) Span {
	low, _ := s.low.over(natural{k})
	high, _ := s.high.over(natural{k})
	return Span{low, next(high), s.point}
}

// Ends tells what both ends round to.
func (s Span) Ends() (low, high uint64) {
	return s.low.nearest(limbBits * s.point).at(0), s.high.nearest(limbBits * s.point).at(0)
}

// next is the unit above what was rounded down: no number between is missed.
func next(units natural) natural {
	return units.plus(natural{1})
}

// Sum adds up a series: the terms at even places, from 0 on, and those at odd ones. Term n is made of the one ahead of it by step, and is at most a half of it; so all the terms behind one are together no more than that one is.
func Sum(first Span, step func(term Span, n uint64) Span) (even, odd Span) {
	nothing := Whole(0, first.point)
	sums := [2]Span{nothing, nothing}
	term := first
	for n := uint64(0); ; n++ {
		sums[n%2] = sums[n%2].Plus(term)
		if len(term.low) == 0 {
			break
		}
		term = step(term, n+1)
	}
	rest := Span{nil, term.high, first.point}
	return sums[0].Plus(rest), sums[1].Plus(rest)
}
