// Package detect: what the detectors share: what a time and a magnitude are, and the two sides of a threshold: see ../../shared/doc/17-step.md.
package detect

import (
	"cmp"

	"gimbal/api"
	"gimbal/fx"
)

func IsTime(t int64) bool {
	return t >= 0 && t <= api.MaxClock
}

func IsMagnitude(m int64) bool {
	return fx.Check(m) == api.OK && m >= 0
}

// Sides leaves room between both: what trembles about one of them doesn't cross the other. Low is not above High.
type Sides[N cmp.Ordered] struct {
	Low, High N
}

// Place is where a number stands to both sides.
type Place int

const (
	Below Place = iota
	Between
	Above
)

// Where tells Between of the sides themselves: they are crossed by what is beyond them alone.
func Where[N cmp.Ordered](n N, s Sides[N]) Place {
	switch {
	case n < s.Low:
		return Below
	case n > s.High:
		return Above
	}
	return Between
}
