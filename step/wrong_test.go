package step_test

import (
	"math"
	"testing"

	"gimbal/api"
)

// wrongTimes are no times and no counts: beside the ends, those that would be right if they were cut to fewer bits, and far beyond.
func wrongTimes() []int64 {
	return []int64{-1, -2, -250, -1 << 40, clock + 1, clock + 2, clock + 250, 1 << 41, 1<<41 + 5, 1<<41 - 1, 1 << 45, math.MaxInt64, math.MaxInt64 - 249, math.MinInt64, math.MinInt64 + 1, math.MinInt64 + 300}
}

// wrongMagnitudes are below 0, or no words.
func wrongMagnitudes() []int64 {
	return []int64{-1, -2, -low, -high, -top, -top - 1, -1 << 46, top + 1, top + 2, 1 << 46, 1<<45 + low, 1<<45 + high, 1 << 62, math.MaxInt64, math.MinInt64, math.MinInt64 + 1}
}

// someStates are good ones whose Last is 1000.
func someStates() []api.Step {
	return []api.Step{down(1000, 0), up(1000, 0), down(1000, 1), up(1000, 1), up(1000, clock-1), up(1000, clock), down(1000, clock)}
}

// someMagnitudes are good ones.
func someMagnitudes() []int64 { return []int64{0, low, g, high, top} }

// P17.1: Last, or Count, of no state.
func TestNoStates(t *testing.T) {
	none := bad(api.ErrForm)
	for _, wrong := range wrongTimes() {
		for _, m := range append(someMagnitudes(), -1, top+1) {
			for _, now := range []int64{0, 5, 1000, 2000, clock, -1, clock + 1, math.MaxInt64} {
				check(t, []row{
					{"Last", down(wrong, 0), m, now, none},
					{"Last, up", up(wrong, 0), m, now, none},
					{"Last, with a count", up(wrong, 5), m, now, none},
					{"Last, with the greatest count", up(wrong, clock), m, now, none},
					{"Count", down(0, wrong), m, now, none},
					{"Count, up", up(0, wrong), m, now, none},
					{"Count, with a Last", up(5, wrong), m, now, none},
					{"both", up(wrong, wrong), m, now, none},
				})
			}
		}
	}
	for _, wrong := range wrongTimes() {
		check(t, []row{{"Last alike now", up(wrong, 0), low, wrong, none}})
	}
}

// P17.1: m below 0, or no word.
func TestNoMagnitudes(t *testing.T) {
	for _, s := range someStates() {
		for _, wrong := range wrongMagnitudes() {
			for _, now := range []int64{1000, 1001, 1249, 1250, clock, 0, -1, clock + 1} {
				check(t, []row{{"no magnitude", s, wrong, now, bad(api.ErrForm)}})
			}
		}
	}
}

// P17.1: now that is no time, or below Last.
func TestNoTimes(t *testing.T) {
	for _, s := range someStates() {
		for _, m := range someMagnitudes() {
			for _, wrong := range wrongTimes() {
				check(t, []row{{"no time", s, m, wrong, bad(api.ErrForm)}})
			}
			for _, early := range []int64{0, 1, 749, 750, 751, 998, 999} {
				check(t, []row{{"below Last", s, m, early, bad(api.ErrForm)}})
			}
		}
	}
	check(t, []row{
		{"one below Last, at the end", up(clock, 0), low, clock - 1, bad(api.ErrForm)},
		{"one below Last, at the beginning", up(1, 0), low, 0, bad(api.ErrForm)},
	})
}

// P17.1: what is wrong is told ahead of a count that is full.
func TestWrongAndFull(t *testing.T) {
	check(t, []row{
		{"full alone", up(1000, clock), low, 1250, bad(api.ErrFull)},
		{"with no magnitude", up(1000, clock), -1, 1250, bad(api.ErrForm)},
		{"with no time", up(1000, clock), low, clock + 1, bad(api.ErrForm)},
		{"too early", up(1000, clock), low, 999, bad(api.ErrForm)},
		{"too full", up(1000, clock+1), low, 1250, bad(api.ErrForm)},
	})
}

// P17.1: a fall that comes too soon needs no room in the count.
func TestTooSoonAndFull(t *testing.T) {
	s := checkRun(t, up(1000, clock), []part{
		{low, 1249, quiet(down(1000, clock))},
		{high, 1249, quiet(up(1000, clock))},
		{low, 1249, quiet(down(1000, clock))},
		{high, 1250, quiet(up(1000, clock))},
	})
	check(t, []row{{"behind them", s, low, 1250, bad(api.ErrFull)}})
}

// R4: beside ErrFull nothing has changed: the state that was given goes on as it did.
func TestBehindFull(t *testing.T) {
	s := up(1000, clock)
	for range 3 {
		check(t, []row{
			{"full", s, low, 5000, bad(api.ErrFull)},
			{"still up", s, g, 5000, quiet(s)},
		})
	}
}
