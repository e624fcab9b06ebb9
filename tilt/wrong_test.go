package tilt_test

import (
	"math"
	"testing"

	"gimbal/api"
)

// wrongTimes are no times: beside the ends, those that would be right if they were cut to fewer bits, and far beyond.
func wrongTimes() []int64 {
	return []int64{-1, -2, -2000, -1 << 40, clock + 1, clock + 2, clock + 2000, 1 << 41, 1<<41 + 5, 1<<41 - 1, 1 << 45, math.MaxInt64, math.MaxInt64 - 1999, math.MinInt64, math.MinInt64 + 1, math.MinInt64 + 2500}
}

// wrongNumbers are none of a vector here: many of them are words.
func wrongNumbers() []int64 {
	return []int64{two + 1, two + 2, -two - 1, -two - 2, 1<<32 + 5, 1 << 40, -1 << 40, 1<<45 - 1, 1 - 1<<45, 1 << 45, -1 << 45, 1 << 62, math.MaxInt64, math.MinInt64, math.MinInt64 + 1}
}

// wrongVectors are wrong each for one of its numbers, or for all.
func wrongVectors() []api.Vec {
	var all []api.Vec
	for _, n := range wrongNumbers() {
		all = append(all, v3(n, 0, 0), v3(0, n, 0), v3(0, 0, n), v3(n, two, two), v3(two, n, -two), v3(1, -2, n), v3(n, n, n))
	}
	return all
}

// someStates are good ones, whose Since is not above 1000.
func someStates() []api.Tilt {
	return []api.Tilt{{}, near(up), near(api.Vec{}), near(v3(two, -two, two)), away(up, 0), away(north, 500), away(v3(-two, two, two), 1000)}
}

// someVectors are good ones.
func someVectors() []api.Vec {
	return []api.Vec{{}, up, north, below, leaning(limit), leaning(limit - 1), v3(two, two, two), v3(-two, two, -two)}
}

// checkWrong takes good and wrong vectors at good and wrong times: a state that is none is told with each.
func checkWrong(t *testing.T, name string, s api.Tilt) {
	t.Helper()
	for _, u := range append(someVectors(), s.Ref, v3(two+1, 0, 0), v3(0, 0, math.MinInt64)) {
		for _, now := range []int64{0, 5, 999, 1000, 3000, clock, -1, clock + 1, math.MaxInt64, math.MinInt64, s.Since} {
			check(t, []row{{name, s, u, now, bad(api.ErrForm)}})
		}
	}
}

// P19.1: On false beside anything else that is not 0 or false.
func TestOffAndMore(t *testing.T) {
	for _, n := range append(wrongTimes(), 1, 2, 1000, one, clock) {
		checkWrong(t, "off, X", api.Tilt{Ref: v3(n, 0, 0)})
		checkWrong(t, "off, Y", api.Tilt{Ref: v3(0, n, 0)})
		checkWrong(t, "off, Z", api.Tilt{Ref: v3(0, 0, n)})
		checkWrong(t, "off, Since", api.Tilt{Since: n})
		checkWrong(t, "off, Since and Away", api.Tilt{Since: n, Away: true})
		checkWrong(t, "off, all", api.Tilt{Ref: v3(n, n, n), Since: n, Away: true})
	}
	checkWrong(t, "off, Away", api.Tilt{Away: true})
	checkWrong(t, "off, Ref", api.Tilt{Ref: up})
	checkWrong(t, "off, Ref and Away", api.Tilt{Ref: up, Away: true})
}

// P19.1: Ref with a number that is too great or too small, in each of its places.
func TestNoRef(t *testing.T) {
	for _, ref := range wrongVectors() {
		checkWrong(t, "Ref", near(ref))
		checkWrong(t, "Ref, away", away(ref, 500))
		checkWrong(t, "Ref, off", api.Tilt{Ref: ref})
	}
}

// P19.1: Since below 0 and above the last time.
func TestNoSince(t *testing.T) {
	for _, since := range wrongTimes() {
		for _, ref := range []api.Vec{{}, up, v3(two, two, two)} {
			checkWrong(t, "Since", away(ref, since))
			checkWrong(t, "Since, not away", api.Tilt{On: true, Ref: ref, Since: since})
		}
	}
}

// P19.1: Away false with a Since that is not 0.
func TestNotAwayAndSince(t *testing.T) {
	for _, since := range []int64{1, 2, 5, 999, 1000, 1 << 32, clock - 1, clock} {
		for _, ref := range []api.Vec{{}, up, north, v3(two, two, two)} {
			checkWrong(t, "not away", api.Tilt{On: true, Ref: ref, Since: since})
		}
	}
}

// P19.1: a sample with a number that is too great or too small, in each of its places.
func TestNoVectors(t *testing.T) {
	for _, s := range someStates() {
		for _, u := range wrongVectors() {
			for _, now := range []int64{1000, 1001, 3000, clock, 0, -1, clock + 1} {
				check(t, []row{{"no vector", s, u, now, bad(api.ErrForm)}})
			}
		}
	}
}

// P19.1: now that is no time.
func TestNoTimes(t *testing.T) {
	for _, s := range append(someStates(), away(up, clock)) {
		for _, u := range append(someVectors(), s.Ref) {
			for _, now := range wrongTimes() {
				check(t, []row{{"no time", s, u, now, bad(api.ErrForm)}})
			}
		}
	}
}

// P19.1: now below Since.
func TestTooEarly(t *testing.T) {
	for _, u := range someVectors() {
		for _, now := range []int64{0, 1, 998, 999} {
			for _, since := range []int64{1000, 3000, 1 << 32, clock} {
				check(t, []row{{"below Since", away(up, since), u, now, bad(api.ErrForm)}})
			}
		}
		check(t, []row{
			{"one below Since, at the end", away(up, clock), u, clock - 1, bad(api.ErrForm)},
			{"one below Since, at the beginning", away(up, 1), u, 0, bad(api.ErrForm)},
		})
	}
}

// R4: behind what was wrong the state that was given goes on as it did.
func TestBehindWrong(t *testing.T) {
	s := away(up, 500)
	for range 3 {
		check(t, []row{
			{"no vector", s, v3(0, two+1, 0), 2500, bad(api.ErrForm)},
			{"too early", s, north, 499, bad(api.ErrForm)},
			{"still away", s, north, 2499, quiet(s)},
			{"away for long", s, north, 2500, tells(north)},
		})
	}
}
