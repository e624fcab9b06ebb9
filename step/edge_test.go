package step_test

import (
	"testing"

	"gimbal/api"
)

// P17.1: the limits of all of it that the sides and the times hang on.
func TestLimits(t *testing.T) {
	if api.Gravity != g || api.MaxClock != clock || api.Bits != 45 {
		t.Errorf("Gravity %d, MaxClock %d, Bits %d", api.Gravity, api.MaxClock, api.Bits)
	}
}

// P17.1: m at the upper side, just below it and just above it, when it is not up and when it is.
func TestUpperSide(t *testing.T) {
	for _, last := range []int64{0, 1, 1000, clock} {
		for _, count := range []int64{0, 1, 1000, clock} {
			not, is := down(last, count), up(last, count)
			check(t, []row{
				{"at gravity", not, g, last, quiet(not)},
				{"just below it", not, 11032480, last, quiet(not)},
				{"at it", not, 11032481, last, quiet(not)},
				{"just above it", not, 11032482, last, quiet(is)},
				{"far above it", not, 20000000, last, quiet(is)},
				{"at gravity, up", is, g, last, quiet(is)},
				{"just below it, up", is, 11032480, last, quiet(is)},
				{"at it, up", is, 11032481, last, quiet(is)},
				{"just above it, up", is, 11032482, last, quiet(is)},
				{"far above it, up", is, 20000000, last, quiet(is)},
			})
		}
	}
}

// P17.1: m at the lower side, just below it and just above it, likewise.
func TestLowerSide(t *testing.T) {
	for _, last := range []int64{0, 1, 1000, clock - 250} {
		for _, count := range []int64{1, 1000, clock - 1} {
			not, is, soon, then := down(last, count), up(last, count), last+249, last+250
			check(t, []row{
				{"just below it, not up", not, 9193734, then, quiet(not)},
				{"at it, not up", not, 9193735, then, quiet(not)},
				{"just above it, not up", not, 9193736, then, quiet(not)},
				{"far below it, not up", not, 1, then, quiet(not)},
				{"just above it", is, 9193736, then, quiet(is)},
				{"at it", is, 9193735, then, quiet(is)},
				{"just below it", is, 9193734, then, tells(then, count+1)},
				{"far below it", is, 1, then, tells(then, count+1)},
				{"just above it, too soon", is, 9193736, soon, quiet(is)},
				{"at it, too soon", is, 9193735, soon, quiet(is)},
				{"just below it, too soon", is, 9193734, soon, quiet(not)},
				{"far below it, too soon", is, 1, soon, quiet(not)},
			})
		}
	}
}

// P17.1: all magnitudes near both sides.
func TestNearTheSides(t *testing.T) {
	for away := int64(-40); away <= 40; away++ {
		rises, falls := quiet(down(9, 5)), quiet(up(9, 5))
		if away > 0 {
			rises = quiet(up(9, 5))
		}
		if away < 0 {
			falls = tells(500, 6)
		}
		check(t, []row{
			{"near the upper side", down(9, 5), upper + away, 500, rises},
			{"near the upper side, up", up(9, 5), upper + away, 500, quiet(up(9, 5))},
			{"near the lower side", up(9, 5), lower + away, 500, falls},
			{"near the lower side, not up", down(9, 5), lower + away, 500, quiet(down(9, 5))},
		})
	}
}

// P17.1: how far now is from Last, with a count of 0 and with others.
func TestRoom(t *testing.T) {
	for _, last := range []int64{0, 1, 249, 250, 251, 1 << 32, clock - 251} {
		check(t, []row{
			{"at once, the first", up(last, 0), low, last, tells(last, 1)},
			{"249, the first", up(last, 0), low, last + 249, tells(last+249, 1)},
			{"250, the first", up(last, 0), low, last + 250, tells(last+250, 1)},
			{"251, the first", up(last, 0), low, last + 251, tells(last+251, 1)},
		})
		for _, count := range []int64{1, 2, 250, 1 << 32, clock - 2, clock - 1} {
			check(t, []row{
				{"at once", up(last, count), low, last, quiet(down(last, count))},
				{"one tick", up(last, count), low, last + 1, quiet(down(last, count))},
				{"249", up(last, count), low, last + 249, quiet(down(last, count))},
				{"250", up(last, count), low, last + 250, tells(last+250, count+1)},
				{"251", up(last, count), low, last + 251, tells(last+251, count+1)},
				{"the end", up(last, count), low, clock, tells(clock, count+1)},
			})
		}
	}
}

// P17.1: the count at its end, and one below it.
func TestEndOfCount(t *testing.T) {
	check(t, []row{
		{"one below the end", up(0, 1<<40-1), low, 250, tells(250, 1<<40)},
		{"one below the end, too soon", up(0, 1<<40-1), low, 249, quiet(down(0, 1<<40-1))},
		{"at the end", up(0, 1<<40), low, 250, bad(api.ErrFull)},
		{"at the end, just below the side", up(0, 1<<40), lower - 1, 250, bad(api.ErrFull)},
		{"at the end, far apart", up(0, 1<<40), 0, clock, bad(api.ErrFull)},
		{"at the end, from a late one", up(clock-250, 1<<40), 0, clock, bad(api.ErrFull)},
		{"at the end, too soon", up(0, 1<<40), low, 249, quiet(down(0, 1<<40))},
		{"at the end, too soon, at the last time", up(clock-249, 1<<40), low, clock, quiet(down(clock-249, 1<<40))},
		{"at the end, at once", up(clock, 1<<40), low, clock, quiet(down(clock, 1<<40))},
		{"at the end, at the side", up(0, 1<<40), lower, 250, quiet(up(0, 1<<40))},
		{"at the end, still up", up(0, 1<<40), high, 250, quiet(up(0, 1<<40))},
		{"at the end, not up", down(0, 1<<40), low, 250, quiet(down(0, 1<<40))},
		{"at the end, a rise", down(0, 1<<40), high, 250, quiet(up(0, 1<<40))},
	})
}

// P17.1: now at 0 and at the last time, and alike Last.
func TestEndsOfTime(t *testing.T) {
	for _, now := range []int64{0, clock} {
		check(t, []row{
			{"a rise", down(now, 0), high, now, quiet(up(now, 0))},
			{"a rise behind others", down(now, 9), high, now, quiet(up(now, 9))},
			{"the first step", up(now, 0), low, now, tells(now, 1)},
			{"another one, too soon", up(now, 9), low, now, quiet(down(now, 9))},
			{"between the sides", up(now, 9), g, now, quiet(up(now, 9))},
			{"between the sides, not up", down(now, 9), g, now, quiet(down(now, 9))},
		})
	}
	check(t, []row{
		{"all of the time between", up(0, 3), low, clock, tells(clock, 4)},
		{"the last that is far enough", up(clock-250, 3), low, clock, tells(clock, 4)},
		{"the first that is too near", up(clock-249, 3), low, clock, quiet(down(clock-249, 3))},
	})
}

// P17.1: m at 0 and at the greatest word.
func TestEndsOfMagnitude(t *testing.T) {
	for _, m := range []int64{upper + 1, 1 << 32, 1 << 44, top - 1, top} {
		check(t, []row{
			{"great", down(5, 6), m, 255, quiet(up(5, 6))},
			{"great, up", up(5, 6), m, 255, quiet(up(5, 6))},
		})
	}
	for _, m := range []int64{0, 1, 2, 1 << 20, lower - 1} {
		check(t, []row{
			{"small", down(5, 6), m, 255, quiet(down(5, 6))},
			{"small, up", up(5, 6), m, 255, tells(255, 7)},
			{"small, up, too soon", up(5, 6), m, 254, quiet(down(5, 6))},
		})
	}
}
