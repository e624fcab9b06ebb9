package motion_test

import (
	"math"
	"testing"

	"gimbal/api"
)

// wrongTimes are no times: beside the ends, those that would be right if they were cut to fewer bits, and far beyond.
func wrongTimes() []int64 {
	return []int64{-1, -2, -1000, -1 << 40, clock + 1, clock + 2, clock + 1000, 1 << 41, 1<<41 + 5, 1<<41 - 1, 1 << 45, math.MaxInt64, math.MaxInt64 - 999, math.MinInt64, math.MinInt64 + 1, math.MinInt64 + 3000}
}

// wrongMagnitudes are below 0, or no words.
func wrongMagnitudes() []int64 {
	return []int64{-1, -2, -tenth, -g, -top, -top - 1, -1 << 46, top + 1, top + 2, 1 << 46, 1<<45 + g, 1 << 62, math.MaxInt64, math.MinInt64, math.MinInt64 + 1}
}

// wrongMoved are below 0 or above 255.
func wrongMoved() []int {
	return []int{-1, -2, -128, -255, -256, 256, 257, 511, 512, 1 << 16, 1<<16 + 1, 1 << 32, 1<<32 + 5, math.MaxInt, math.MinInt, math.MinInt + 1}
}

// someStates are good ones, whose Start is not above 1000.
func someStates() []api.Motion {
	return []api.Motion{off, on(0, 0, 0, 0), on(1, 4, g, 0b1111), on(1000, g, g, 255), toldOf(on(0, 0, top, 128)), toldOf(on(1000, 0, g, 0b11111))}
}

// someMagnitudes are good ones.
func someMagnitudes() []int64 {
	return []int64{0, 1, tenth, tenth + 1, g, top}
}

// checkWrong takes good and wrong magnitudes at good and wrong times: a state that is none is told with each.
func checkWrong(t *testing.T, name string, x api.Motion) {
	t.Helper()
	for _, m := range append(someMagnitudes(), -1, top+1, math.MinInt64) {
		for _, now := range []int64{0, 5, 999, 1000, 2000, 5000, clock, -1, clock + 1, math.MaxInt64, math.MinInt64, x.Start} {
			check(t, []row{{name, x, m, now, bad(api.ErrForm)}})
		}
	}
}

// P21.1: On false beside anything that is not 0 or false, each field by itself, and more of them.
func TestOffAndMore(t *testing.T) {
	for _, start := range append(wrongTimes(), 1, 2, 999, 1000, 1<<32, clock-1, clock) {
		checkWrong(t, "off, Start", api.Motion{Start: start})
		checkWrong(t, "off, Start and Told", api.Motion{Start: start, Told: true})
	}
	for _, m := range append(wrongMagnitudes(), 1, 2, tenth, g, top) {
		checkWrong(t, "off, Min", api.Motion{Min: m})
		checkWrong(t, "off, Max", api.Motion{Max: m})
		checkWrong(t, "off, Min and Max", api.Motion{Min: m, Max: m})
	}
	for _, moved := range append(wrongMoved(), 1, 2, 127, 128, 255) {
		checkWrong(t, "off, Moved", api.Motion{Moved: moved})
	}
	checkWrong(t, "off, Told", api.Motion{Told: true})
	checkWrong(t, "off, all", api.Motion{Start: 5, Min: 4, Max: 7, Moved: 3, Told: true})
}

// P21.1: Start below 0 and above the last time.
func TestNoStart(t *testing.T) {
	for _, start := range wrongTimes() {
		checkWrong(t, "Start", on(start, 4, 7, 3))
		checkWrong(t, "Start, told", toldOf(on(start, 0, 0, 0)))
	}
}

// P21.1: Min or Max below 0, or no word, or Min above Max.
func TestNoWindow(t *testing.T) {
	for _, wrong := range wrongMagnitudes() {
		checkWrong(t, "Min", on(0, wrong, g, 3))
		checkWrong(t, "Min, Max the greatest", on(0, wrong, top, 3))
		checkWrong(t, "Max", on(0, 0, wrong, 3))
		checkWrong(t, "Max, Min more", on(0, g, wrong, 3))
		checkWrong(t, "both", toldOf(on(0, wrong, wrong, 3)))
	}
	for _, both := range [][2]int64{{1, 0}, {2, 1}, {g, g - 1}, {g, 0}, {1 << 32, 5}, {1<<32 + 5, 1 << 32}, {top, 0}, {top, top - 1}} {
		checkWrong(t, "Min above Max", on(0, both[0], both[1], 3))
		checkWrong(t, "Min above Max, told", toldOf(on(0, both[0], both[1], 3)))
	}
}

// P21.1: Moved below 0 and above 255.
func TestNoMoved(t *testing.T) {
	for _, wrong := range wrongMoved() {
		checkWrong(t, "Moved", on(0, 4, 7, wrong))
		checkWrong(t, "Moved, told", toldOf(on(1000, 0, g, wrong)))
	}
}

// P21.1: m below 0, or no word.
func TestNoMagnitudes(t *testing.T) {
	for _, x := range someStates() {
		for _, wrong := range wrongMagnitudes() {
			for _, now := range []int64{1000, 1001, 1999, 2000, clock, 0, -1, clock + 1} {
				check(t, []row{{"no magnitude", x, wrong, now, bad(api.ErrForm)}})
			}
		}
	}
}

// P21.1: now that is no time.
func TestNoTimes(t *testing.T) {
	for _, x := range append(someStates(), on(clock, 4, 7, 3), toldOf(on(clock, 4, 7, 3))) {
		for _, m := range someMagnitudes() {
			for _, wrong := range wrongTimes() {
				check(t, []row{{"no time", x, m, wrong, bad(api.ErrForm)}})
			}
		}
	}
}

// P21.1: now below Start.
func TestTooEarly(t *testing.T) {
	for _, m := range someMagnitudes() {
		for _, now := range []int64{0, 1, 500, 998, 999} {
			for _, start := range []int64{1000, 3000, 1 << 32, clock} {
				check(t, []row{
					{"below Start", on(start, 4, 7, 3), m, now, bad(api.ErrForm)},
					{"below Start, told", toldOf(on(start, 0, g, 255)), m, now, bad(api.ErrForm)},
				})
			}
		}
	}
}

// P21.1: several wrong at once.
func TestSeveralWrong(t *testing.T) {
	for _, x := range []api.Motion{
		{Start: -1, Min: -1, Max: -2, Moved: -1, Told: true},
		on(-1, 7, 4, 3), on(clock+1, -1, 4, 256), on(0, top+1, top, -1), on(-1, -1, -1, -1),
		toldOf(on(math.MinInt64, math.MaxInt64, math.MinInt64, math.MinInt)),
		toldOf(on(math.MaxInt64, math.MinInt64, math.MaxInt64, math.MaxInt)),
	} {
		checkWrong(t, "several", x)
	}
	for _, x := range someStates() {
		for _, m := range wrongMagnitudes() {
			for _, now := range wrongTimes() {
				check(t, []row{{"magnitude and time", x, m, now, bad(api.ErrForm)}})
			}
		}
	}
}

// R4: behind what was wrong the state that was given goes on as it did.
func TestBehindWrong(t *testing.T) {
	x := on(500, 4, g, 0b1111)
	for range 3 {
		check(t, []row{
			{"no magnitude", x, -1, 1500, bad(api.ErrForm)},
			{"too early", x, 0, 499, bad(api.ErrForm)},
			{"no time", x, g, clock + 1, bad(api.ErrForm)},
			{"within the window", x, g, 1499, quiet(x)},
			{"the end of it", x, g, 1500, tells(on(1500, g, g, 0b11111))},
		})
	}
}
