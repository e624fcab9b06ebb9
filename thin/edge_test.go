package thin_test

import (
	"testing"

	"gimbal/api"
)

// P14.1: means that lie just between two whole numbers go to the even one, above 0 and below it; those beside them to the nearest one.
func TestHalves(t *testing.T) {
	tests := []struct{ whole, below, half, above int64 }{ // what is told just below whole + 1/2, there, and just above it
		{0, 0, 0, 1}, {1, 1, 2, 2}, {2, 2, 2, 3}, {3, 3, 4, 4}, {1000, 1000, 1000, 1001}, {1001, 1001, 1002, 1002},
		{-1, -1, 0, 0}, {-2, -2, -2, -1}, {-3, -3, -2, -2}, {-4, -4, -4, -3}, {-1001, -1001, -1000, -1000},
		{1 << 44, 1 << 44, 1 << 44, 1<<44 + 1}, {1<<44 - 1, 1<<44 - 1, 1 << 44, 1 << 44},
		{-1 << 44, -1 << 44, -1 << 44, 1 - 1<<44}, {top - 1, top - 1, top - 1, top}, {-top, -top, 1 - top, 1 - top},
	}
	for _, k := range []int{2, 4, 6, 8, 10, 100, 254, most} {
		n := int64(k)
		for _, test := range tests {
			for i := range 3 {
				for _, side := range []struct {
					name       string
					more, told int64
				}{
					{"just below a half", n/2 - 1, test.below},
					{"a half", n / 2, test.half},
					{"just above a half", n/2 + 1, test.above},
				} {
					sum := test.whole*(n-1) + side.more
					nine := all(9 * (n - 1))
					check(t, []row{
						{side.name, far(placed(nine, i, sum), k-1), k, placed(all(9), i, test.whole), tells(placed(all(9), i, side.told))},
						{side.name + ", of the negatives", far(placed(nine, i, -sum), k-1), k, placed(all(9), i, -test.whole), tells(placed(all(9), i, -side.told))},
					})
				}
			}
		}
	}
	check(t, []row{
		{"256, by hand", far(api.Vec{}, last), most, v3(128, 384, -128), tells(v3(0, 2, 0))},
		{"beside them", far(api.Vec{}, last), most, v3(129, 383, -129), tells(v3(1, 1, -1))},
		{"of 2, by hand", far(v3(3, -3, 1), 1), 2, v3(2, -2, 0), tells(v3(2, -2, 0))},
		{"of 2, the odd ones", far(v3(3, -3, 1), 1), 2, v3(4, -4, 2), tells(v3(4, -4, 2))},
	})
}

// P14.1: thirds, to the nearest one.
func TestThirds(t *testing.T) {
	check(t, []row{
		{"1/3 and 2/3", far(v3(1, 2, 3), 2), 3, all(0), tells(v3(0, 1, 1))},
		{"-1/3 and -2/3", far(v3(-1, -2, -3), 2), 3, all(0), tells(v3(0, -1, -1))},
		{"4/3 and 5/3", far(v3(4, 5, 7), 2), 3, all(0), tells(v3(1, 2, 2))},
	})
}

// P14.1: N at each value, with k just above it, at it, below it, and further: told, if with this one they are k.
func TestEndsOfN(t *testing.T) {
	for n := 1; n <= last; n++ {
		sum := all(5 * int64(n))
		for k := 1; k <= most; k++ {
			want := tells(all(5))
			if n+1 < k {
				want = more(all(5*int64(n)+5), n+1)
			}
			check(t, []row{{"by N and k", far(sum, n), k, all(5), want}})
		}
	}
	for _, k := range counts()[1:] {
		check(t, []row{{"the first", api.Thin{}, k, v3(1, 2, 3), more(v3(1, 2, 3), 1)}})
	}
	check(t, []row{
		{"a sum of 0 of one", far(api.Vec{}, 1), 3, api.Vec{}, more(api.Vec{}, 2)},
		{"a sum that comes to 0", far(v3(1, -2, 3), 7), 9, v3(-1, 2, -3), more(api.Vec{}, 8)},
		{"a mean of 0", far(v3(1, -2, 3), 8), 9, v3(-1, 2, -3), tells(api.Vec{})},
		{"the last, of many more than k", far(all(256), last), 1, all(0), tells(all(1))},
		{"the last, of k", far(all(256), last), last, all(0), tells(all(1))},
	})
}

// P14.1: the greatest and the least words, as many as may be: sums are no words, and all of them are below 2^53.
func TestEndsOfWords(t *testing.T) {
	const lower = 127<<38 - 1 // 254/256 of the greatest word
	for _, v := range []api.Vec{all(top), all(-top), v3(top, -top, top), v3(-top, 0, top)} {
		at := api.Thin{}
		for n := int64(1); n < most; n++ {
			check(t, []row{{"at the ends", at, most, v, more(v3(n*v.X, n*v.Y, n*v.Z), int(n))}})
			at = taken(at, most, v).u
		}
		check(t, []row{
			{"all of them", at, most, v, tells(v)},
			{"the last one its negative", at, most, v3(-v.X, -v.Y, -v.Z), tells(v3(v.X/top*lower, v.Y/top*lower, v.Z/top*lower))},
		})
	}
}

// P14.1: Sum at the greatest and the least that it may be: v is added as it is; nothing but the mean must be a word.
func TestEndsOfSum(t *testing.T) {
	for i := range 3 {
		for _, sign := range []int64{1, -1} {
			end := sign * topSum
			at := func(n int) api.Thin { return far(placed(all(0), i, end), n) }
			sample := func(v int64) api.Vec { return placed(all(0), i, sign*v) }
			check(t, []row{
				{"0 more", at(1), 3, sample(0), more(sample(topSum), 2)},
				{"one back", at(1), 3, sample(-1), more(sample(topSum-1), 2)},
				{"one beyond", at(1), 3, sample(1), more(sample(topSum+1), 2)},
				{"far beyond", at(9), most, sample(top), more(sample(topSum+top), 10)},
				{"a mean that is no word", at(1), 2, sample(0), bad(api.ErrRange)},
				{"a mean of 255 that is no word", at(254), 255, sample(0), bad(api.ErrRange)},
				{"a mean of 256 that is the least that is no word", at(last), most, sample(0), bad(api.ErrRange)},            // 2^45 - 1/256
				{"a mean of 256 that goes to the even one, no word", at(last), most, sample(-127), bad(api.ErrRange)},        // 2^45 - 1/2
				{"a mean of 256 that is a word by one", at(last), most, sample(-128), tells(sample(top))},                    // 2^45 - 129/256
				{"a mean of 256 that is no word by far", at(last), most, sample(top), bad(api.ErrRange)},                     // 2^45 + 2^37
				{"a mean of 256, 2^37 lower", at(last), most, sample(-top), tells(sample(1<<45 - 1<<37))},                    // 2^45 - 2^37
				{"no word, and told as k is below N", at(9), 3, sample(-5), bad(api.ErrRange)},                               // 2^53 / 10
				{"no word, but not told", far(placed(all(0), i, sign*(1<<50)), 9), 11, sample(5), more(sample(1<<50+5), 10)}, // 2^50 / 10
			})
		}
	}
}

// P14.1: a mean that is no word in one number beside two that are words: all of it is told as out of range.
func TestOneOutOfRange(t *testing.T) {
	for i := range 3 {
		for _, wide := range []int64{2*top + 2, 2*top + 1, -2*top - 1, -2*top - 2, 1 << 50, -1 << 50} {
			check(t, []row{{"one out of range", far(placed(all(4), i, wide), 1), 2, all(0), bad(api.ErrRange)}})
		}
		for _, sign := range []int64{1, -1} {
			check(t, []row{
				{"just within", far(placed(all(4), i, sign*2*top), 1), 2, all(0), tells(placed(all(2), i, sign*top))},
				{"just within, a half above an even one", far(placed(all(4), i, sign*(2*top-1)), 1), 2, all(0), tells(placed(all(2), i, sign*(top-1)))},
			})
		}
	}
}
