package fall_test

import (
	"math"
	"testing"

	"gimbal/api"
)

// wrongTimes are no times: beside the ends, those that would be right if they were cut to fewer bits, and far beyond.
func wrongTimes() []int64 {
	return []int64{-1, -2, -100, -1 << 40, clock + 1, clock + 2, clock + 100, 1 << 41, 1<<41 + 5, 1<<41 - 1, 1 << 45, math.MaxInt64, math.MaxInt64 - 99, math.MinInt64, math.MinInt64 + 1, math.MinInt64 + 300}
}

// wrongMagnitudes are below 0, or no words.
func wrongMagnitudes() []int64 {
	return []int64{-1, -2, -lower, -upper, -g, -top, -top - 1, -1 << 46, top + 1, top + 2, 1 << 46, 1<<45 + mid, 1<<45 + g, 1 << 62, math.MaxInt64, math.MinInt64, math.MinInt64 + 1}
}

// someStates are good ones, whose Since is not above 1000.
func someStates() []api.Fall {
	return []api.Fall{high, low(0), low(1), low(1000), fallen(0), fallen(1), fallen(1000)}
}

// someMagnitudes are good ones.
func someMagnitudes() []int64 {
	return []int64{0, 1, lower - 1, lower, mid, upper, upper + 1, g, top}
}

// checkWrong takes good and wrong magnitudes at good and wrong times: a state that is none is told with each.
func checkWrong(t *testing.T, name string, f api.Fall) {
	t.Helper()
	for _, m := range append(someMagnitudes(), -1, top+1, math.MinInt64) {
		for _, now := range []int64{0, 5, 99, 100, 1000, 2000, clock, -1, clock + 1, math.MaxInt64, math.MinInt64, f.Since} {
			check(t, []row{{name, f, m, now, bad(api.ErrForm)}})
		}
	}
}

// P20.1: Low false beside a Since that is not 0, or beside Told.
func TestNotLowAndMore(t *testing.T) {
	for _, since := range append(wrongTimes(), 1, 2, 99, 100, 1000, 1<<32, clock-1, clock) {
		checkWrong(t, "not low, Since", api.Fall{Since: since})
		checkWrong(t, "not low, Since and Told", api.Fall{Since: since, Told: true})
	}
	checkWrong(t, "not low, Told", api.Fall{Told: true})
}

// P20.1: Since below 0 and above the last time.
func TestNoSince(t *testing.T) {
	for _, since := range wrongTimes() {
		checkWrong(t, "Since", low(since))
		checkWrong(t, "Since, told", fallen(since))
	}
}

// P20.1: m below 0, or no word.
func TestNoMagnitudes(t *testing.T) {
	for _, f := range someStates() {
		for _, wrong := range wrongMagnitudes() {
			for _, now := range []int64{1000, 1001, 1099, 1100, clock, 0, -1, clock + 1} {
				check(t, []row{{"no magnitude", f, wrong, now, bad(api.ErrForm)}})
			}
		}
	}
}

// P20.1: now that is no time.
func TestNoTimes(t *testing.T) {
	for _, f := range append(someStates(), low(clock), fallen(clock)) {
		for _, m := range someMagnitudes() {
			for _, wrong := range wrongTimes() {
				check(t, []row{{"no time", f, m, wrong, bad(api.ErrForm)}})
			}
		}
	}
}

// P20.1: now below Since.
func TestTooEarly(t *testing.T) {
	for _, m := range someMagnitudes() {
		for _, now := range []int64{0, 1, 899, 900, 901, 998, 999} {
			for _, since := range []int64{1000, 3000, 1 << 32, clock} {
				check(t, []row{
					{"below Since", low(since), m, now, bad(api.ErrForm)},
					{"below Since, told", fallen(since), m, now, bad(api.ErrForm)},
				})
			}
		}
	}
}

// R4: behind what was wrong the state that was given goes on as it did.
func TestBehindWrong(t *testing.T) {
	f := low(500)
	for range 3 {
		check(t, []row{
			{"no magnitude", f, -1, 600, bad(api.ErrForm)},
			{"too early", f, 0, 499, bad(api.ErrForm)},
			{"no time", f, g, clock + 1, bad(api.ErrForm)},
			{"still falling", f, 0, 599, quiet(f)},
			{"fallen for long", f, 0, 600, tells(500)},
		})
	}
}
