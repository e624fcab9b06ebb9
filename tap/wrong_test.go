package tap_test

import (
	"math"
	"testing"

	"gimbal/api"
)

// wrongMarks are below 0 or above the last time and 1: beside the ends, those that would be right if they were cut to fewer bits, and far beyond.
func wrongMarks() []int64 {
	return []int64{-1, -2, -60, -300, -1 << 40, clock + 2, clock + 3, clock + 60, clock + 300, 1 << 41, 1<<41 + 5, 1 << 45, math.MaxInt64, math.MaxInt64 - 1, math.MaxInt64 - 300, math.MinInt64, math.MinInt64 + 1, math.MinInt64 + 300}
}

// wrongTimes are no times.
func wrongTimes() []int64 { return append(wrongMarks(), clock+1) }

// wrongNumbers are no words.
func wrongNumbers() []int64 {
	return []int64{top + 1, top + 2, -top - 1, -top - 2, 1 << 46, -1 << 46, 1<<45 + g, 1 << 62, math.MaxInt64, math.MinInt64, math.MinInt64 + 1}
}

// wrongVectors are no vectors, each for one of its numbers, or for all.
func wrongVectors() []api.Vec {
	var all []api.Vec
	for _, n := range wrongNumbers() {
		all = append(all, v3(n, 0, 0), v3(0, n, 0), v3(0, 0, n), v3(n, top, top), v3(top, n, -top), v3(1, -2, n), v3(n, n, n))
	}
	return all
}

// someStates are good ones, none of whose marks is above 1000.
func someStates() []api.Tap {
	return []api.Tap{{}, resting(vx(0), 0), resting(v3(1, 2, 3), 901), resting(v3(top, top, top), 1000), jerking(vx(0), 1, 0), jerking(v3(0, 0, 2*g), 951, 901), jerking(v3(-top, top, -top), 1000, 1000)}
}

// someVectors are good ones.
func someVectors() []api.Vec {
	return []api.Vec{vx(0), v3(1, 2, 3), v3(0, 0, g), vx(-2 * g), v3(top, top, top), v3(-top, top, -top)}
}

// checkWrong takes good and wrong vectors at good and wrong times: a state that is none is told with each.
func checkWrong(t *testing.T, name string, s api.Tap) {
	t.Helper()
	for _, v := range append(someVectors(), s.Last, vx(top+1), v3(0, 0, math.MinInt64)) {
		for _, now := range []int64{0, 5, 999, 1000, 2000, clock, -1, clock + 1, math.MaxInt64, math.MinInt64} {
			check(t, []row{{name, s, v, now, bad(api.ErrForm)}})
		}
	}
}

// P18.1: On false beside anything else that is not 0.
func TestOffAndMore(t *testing.T) {
	for _, n := range append(wrongMarks(), 1, 2, g, 1000, clock, clock+1) {
		checkWrong(t, "off, X", api.Tap{Last: v3(n, 0, 0)})
		checkWrong(t, "off, Y", api.Tap{Last: v3(0, n, 0)})
		checkWrong(t, "off, Z", api.Tap{Last: v3(0, 0, n)})
		checkWrong(t, "off, Since", api.Tap{Since: n})
		checkWrong(t, "off, Prev", api.Tap{Prev: n})
		checkWrong(t, "off, all", api.Tap{Last: v3(n, n, n), Since: n, Prev: n})
	}
}

// P18.1: Last that is no vector, in each of its numbers.
func TestNoLast(t *testing.T) {
	for _, last := range wrongVectors() {
		checkWrong(t, "Last", resting(last, 0))
		checkWrong(t, "Last, within a jerk", jerking(last, 1, 1))
		checkWrong(t, "Last, off", api.Tap{Last: last})
	}
}

// P18.1: Since, and Prev, below 0 and above the last time and 1.
func TestNoMarks(t *testing.T) {
	for _, mark := range wrongMarks() {
		for _, last := range []api.Vec{vx(0), v3(top, top, top)} {
			checkWrong(t, "Since", jerking(last, mark, 0))
			checkWrong(t, "Since, behind a tap", jerking(last, mark, 1))
			checkWrong(t, "Prev", resting(last, mark))
			checkWrong(t, "Prev, within a jerk", jerking(last, 1, mark))
			checkWrong(t, "both", jerking(last, mark, mark))
		}
		check(t, []row{
			{"Since alike now and 1", jerking(vx(0), mark, 0), vx(0), mark - 1, bad(api.ErrForm)},
			{"Prev alike now and 1", resting(vx(0), mark), vx(0), mark - 1, bad(api.ErrForm)},
		})
	}
}

// P18.1: v that is no vector, in each of its numbers.
func TestNoVectors(t *testing.T) {
	for _, s := range someStates() {
		for _, v := range wrongVectors() {
			for _, now := range []int64{1000, 1001, clock, 0, -1, clock + 1} {
				check(t, []row{{"no vector", s, v, now, bad(api.ErrForm)}})
			}
		}
	}
}

// P18.1: now that is no time.
func TestNoTimes(t *testing.T) {
	for _, s := range append(someStates(), jerking(vx(0), clock+1, clock+1)) {
		for _, v := range append(someVectors(), s.Last) {
			for _, now := range wrongTimes() {
				check(t, []row{{"no time", s, v, now, bad(api.ErrForm)}})
			}
		}
	}
}

// P18.1: now + 1 below Since, below Prev, and below both.
func TestTooEarly(t *testing.T) {
	for _, v := range someVectors() {
		for _, now := range []int64{0, 1, 699, 938, 939, 997, 998} {
			check(t, []row{
				{"Since", jerking(vx(1), 1000, 0), v, now, bad(api.ErrForm)},
				{"Prev", resting(vx(1), 1000), v, now, bad(api.ErrForm)},
				{"Prev, within a jerk", jerking(vx(1), 1, 1000), v, now, bad(api.ErrForm)},
				{"both", jerking(vx(1), 1000, 1000), v, now, bad(api.ErrForm)},
				{"far below", jerking(vx(1), clock+1, clock+1), v, now, bad(api.ErrForm)},
			})
		}
	}
}

// P18.1: what is wrong is told ahead of a vector that is too far; one that is too far is told alone.
func TestWrongAndTooFar(t *testing.T) {
	far, s := vx(top), jerking(vx(-1), 951, 901)
	check(t, []row{
		{"too far alone", s, far, 1000, bad(api.ErrRange)},
		{"with no time", s, far, clock + 1, bad(api.ErrForm)},
		{"with a time below 0", s, far, -1, bad(api.ErrForm)},
		{"below Since", s, far, 949, bad(api.ErrForm)},
		{"below Prev", jerking(vx(-1), 1, 901), far, 899, bad(api.ErrForm)},
		{"with no vector", s, v3(top, 0, top+1), 1000, bad(api.ErrForm)},
		{"with no Last", jerking(v3(-1, 0, top+1), 951, 901), far, 1000, bad(api.ErrForm)},
		{"with no Since", jerking(vx(-1), -1, 901), far, 1000, bad(api.ErrForm)},
		{"with no Prev", jerking(vx(-1), 951, -1), far, 1000, bad(api.ErrForm)},
		{"off, with a Last", api.Tap{Last: vx(-1)}, far, 1000, bad(api.ErrForm)},
		{"off", api.Tap{}, far, 1000, quiet(resting(far, 0))},
	})
}
