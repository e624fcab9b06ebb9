package learn_test

import (
	"testing"

	"gimbal/api"
	"gimbal/learn"
)

// P11.1: each number just Gate away from the bias's, above it and below it, and one further; with none ahead of it, with one, and with Quiet - 1.
func TestGate(t *testing.T) {
	for _, bias := range []int64{0, 1, -1, 12345, -gate, gate, 1 << 44, top - gate, gate - top, top - gate - 1, gate + 1 - top} {
		for i := range 3 {
			for _, away := range []int64{0, 1, -1, gate - 1, 1 - gate, gate, -gate} {
				v := all(bias)
				*numbers(&v)[i] += away
				sum, b := all(2*bias), all(bias)
				*numbers(&sum)[i] += away
				mean := all(bias)
				*numbers(&mean)[i] = rounded(32*bias + away)
				check(t, []row{
					{"near, the first", far(b, api.Vec{}, 0), v, more(b, v, 1)},
					{"near, the second", far(b, b, 1), v, more(b, sum, 2)},
					{"near, the last", far(b, all(last*bias), last), v, learned(mean)},
				})
			}
		}
	}
	for _, bias := range []int64{0, 1, -1, 12345, -gate, gate, 1 << 44, top - gate - 1, gate + 1 - top} {
		for i := range 3 {
			for _, away := range []int64{gate + 1, -gate - 1} {
				v, b := all(bias), all(bias)
				*numbers(&v)[i] += away
				check(t, []row{
					{"far, the first", far(b, api.Vec{}, 0), v, anew(b)},
					{"far, the second", far(b, b, 1), v, anew(b)},
					{"far, the last", far(b, all(last*bias), last), v, anew(b)},
					{"far, the last, of a mean that would be no word", far(b, all(topSum), last), v, anew(b)},
				})
			}
		}
	}
}

// P11.1: a sample so far away that the difference is no word is far away, and no error.
func TestDifferenceThatIsNoWord(t *testing.T) {
	for i := range 3 {
		check(t, []row{
			{"from the least to the greatest", far(placed(i, -top), all(5), 3), placed(i, top), anew(placed(i, -top))},
			{"from the greatest to the least", far(placed(i, top), all(5), 3), placed(i, -top), anew(placed(i, top))},
		})
	}
	check(t, []row{
		{"all, upward", far(all(-top), api.Vec{}, 0), all(top), anew(all(-top))},
		{"all, downward", far(all(top), api.Vec{}, 0), all(-top), anew(all(top))},
	})
}

// P11.1: N at 0, at Quiet - 2 and at Quiet - 1.
func TestEndsOfN(t *testing.T) {
	check(t, []row{
		{"the first", api.Learn{}, v3(1, 2, 3), more(api.Vec{}, v3(1, 2, 3), 1)},
		{"the second", far(api.Vec{}, v3(1, 2, 3), 1), v3(4, 5, 6), more(api.Vec{}, v3(5, 7, 9), 2)},
		{"the last but one", far(all(9), v3(10, 20, 30), last-1), v3(1, 2, 3), more(all(9), v3(11, 22, 33), last)},
		{"the last", far(all(9), v3(31, 62, 93), last), v3(1, 2, 3), learned(v3(1, 2, 3))},
		{"the last, with a sum of 0", far(all(9), api.Vec{}, last), api.Vec{}, learned(api.Vec{})},
		{"one between, with a sum of 0", far(all(9), api.Vec{}, 7), api.Vec{}, more(all(9), api.Vec{}, 8)},
	})
}

// P11.1: Sum at the greatest and the least that it may be: v is added as it is, and nothing but the bias must be a word.
func TestEndsOfSum(t *testing.T) {
	for i := range 3 {
		for _, sign := range []int64{1, -1} {
			end := sign * topSum
			near := far(api.Vec{}, placed(i, end), 1)
			if e := learn.Check(near); e != api.OK {
				t.Errorf("Check(%+v): %v", near, e)
			}
			high := placed(i, sign*top)
			check(t, []row{
				{"0 more", near, api.Vec{}, more(api.Vec{}, placed(i, end), 2)},
				{"one back", near, placed(i, -sign), more(api.Vec{}, placed(i, end-sign), 2)},
				{"one beyond", near, placed(i, sign), more(api.Vec{}, placed(i, end+sign), 2)},
				{"back to 0", far(api.Vec{}, placed(i, sign), 30), placed(i, -sign), more(api.Vec{}, api.Vec{}, 31)},
				{"far beyond", far(high, placed(i, end), 30), high, more(high, placed(i, end+sign*top), 31)},
				{"anew", near, placed(i, gate+1), anew(api.Vec{})},
				{"the last", far(api.Vec{}, placed(i, end), last), api.Vec{}, bad(api.ErrRange)},
				{"the last, far beyond", far(high, placed(i, end), last), high, bad(api.ErrRange)},
				{"the last, anew", far(api.Vec{}, placed(i, end), last), placed(i, gate+1), anew(api.Vec{})},
			})
		}
	}
	check(t, []row{
		{"all of the greatest", far(all(top), all(topSum), 30), all(top), more(all(top), all(topSum+top), 31)},
		{"all of the least", far(all(-top), all(-topSum), 30), all(-top), more(all(-top), all(-topSum-top), 31)},
	})
}

// P11.1: R: the nearest one, of two as near the even one, above 0 and below it, in each number.
func TestMeans(t *testing.T) {
	tests := []struct{ sum, mean int64 }{
		{0, 0}, {1, 0}, {15, 0}, {16, 0}, {17, 1}, {31, 1}, {32, 1}, {33, 1},
		{47, 1}, {48, 2}, {49, 2}, {79, 2}, {80, 2}, {81, 3}, {111, 3}, {112, 4}, {113, 4},
		{32*gate + 15, gate}, {32*gate + 16, gate}, {32*gate + 17, gate + 1}, {32*gate - 16, gate}, {32*gate - 17, gate - 1},
		{1<<50 - 64, top - 1}, {1<<50 - 49, top - 1}, {1<<50 - 48, top - 1}, {1<<50 - 47, top},
	}
	for i := range 3 {
		for _, test := range tests {
			for _, sign := range []int64{1, -1} {
				for _, given := range []int64{0, 1, -1, 1000, gate, -gate} {
					ahead := far(api.Vec{}, placed(i, sign*test.sum-given), last)
					check(t, []row{{"a mean", ahead, placed(i, given), learned(placed(i, sign*test.mean))}})
				}
			}
		}
	}
	check(t, []row{{"three of them", far(api.Vec{}, v3(16, -48, 79), last), v3(0, 0, 1), learned(v3(0, -2, 2))}})
}

// P11.1: a mean that is the greatest or the least word, and one beyond it, in each number.
func TestEndsOfTheMean(t *testing.T) {
	const whole = 32 * top
	for i := range 3 {
		for _, sign := range []int64{1, -1} {
			ahead := func(sum int64) api.Learn { return far(api.Vec{}, placed(i, sign*(sum-5)), last) }
			five, end := placed(i, sign*5), learned(placed(i, sign*top))
			check(t, []row{
				{"at the end", ahead(whole), five, end},
				{"one less, rounded to it", ahead(whole - 1), five, end},
				{"just between it and one within: to the even one", ahead(whole - 16), five, learned(placed(i, sign*(top-1)))},
				{"rounded to it", ahead(whole + 15), five, end},
				{"just between it and one beyond: to the even one", ahead(whole + 16), five, bad(api.ErrRange)},
				{"one beyond", ahead(whole + 32), five, bad(api.ErrRange)},
				{"far beyond", ahead(topSum), five, bad(api.ErrRange)},
			})
		}
	}
	check(t, []row{
		{"all at the ends", far(v3(top, -top, top), v3(last*top, -last*top, last*top), last), v3(top, -top, top), learned(v3(top, -top, top))},
		{"one beyond, beside good ones", far(api.Vec{}, v3(32, 1<<50, 64), last), api.Vec{}, bad(api.ErrRange)},
	})
	for _, v := range []api.Vec{all(top), all(-top), v3(top, -top, top-gate)} {
		if l := takeAll(t, api.Learn{Bias: v}, repeated(v, api.Quiet), true); l != (api.Learn{Bias: v}) {
			t.Errorf("%+v, not %+v", l, v)
		}
	}
}
