package median_test

import (
	"slices"
	"testing"

	"gimbal/api"
)

// P13.1: of an even number of vectors the lower one of both in the middle.
func TestEven(t *testing.T) {
	check(t, []row{
		{"two", line(1), 3, all(2), good(all(1), line(1, 2)...)},
		{"two, falling", line(2), 3, all(1), good(all(1), line(2, 1)...)},
		{"two below 0", line(-1), 3, all(-2), good(all(-2), line(-1, -2)...)},
		{"two on both sides of 0", line(-1), 5, all(1), good(all(-1), line(-1, 1)...)},
		{"two of seven", line(8), 7, all(6), good(all(6), line(8, 6)...)},
		{"two, each number apart", []api.Vec{v3(1, 2, -1)}, 3, v3(2, 1, -2), good(v3(1, 1, -2), v3(1, 2, -1), v3(2, 1, -2))},
		{"four", line(1, 2, 3), 5, all(4), good(all(2), line(1, 2, 3, 4)...)},
		{"four, falling", line(4, 3, 2), 5, all(1), good(all(2), line(4, 3, 2, 1)...)},
		{"four, mixed", line(3, 1, 4), 7, all(2), good(all(2), line(3, 1, 4, 2)...)},
		{"four, each number apart", []api.Vec{v3(1, 8, -5), v3(2, 7, -8), v3(3, 6, -6)}, 5, v3(4, 5, -7), good(v3(2, 6, -7), v3(1, 8, -5), v3(2, 7, -8), v3(3, 6, -6), v3(4, 5, -7))},
		{"six", line(1, 2, 3, 4, 5), 7, all(6), good(all(3), line(1, 2, 3, 4, 5, 6)...)},
		{"six, falling", line(6, 5, 4, 3, 2), 7, all(1), good(all(3), line(6, 5, 4, 3, 2, 1)...)},
		{"six, mixed", line(50, -10, 40, -20, 30), 7, all(-30), good(all(-10), line(50, -10, 40, -20, 30, -30)...)},
	})
}

// P13.1: l of each length from none on to just n: of one that has n the first one is gone, of shorter ones all stay.
func TestLengths(t *testing.T) {
	list := line(10, 20, 30, 40, 50, 60, 70)
	for _, n := range sizes() {
		for k := range n {
			want := good(all(int64(10*(k/2+1))), joined(list[:k], all(1000))...)
			if k == 0 {
				want.m = all(1000)
			}
			check(t, []row{{"not full", list[:k], n, all(1000), want}})
		}
		want := good(all(int64(10*((n-1)/2+2))), joined(list[1:n], all(1000))...)
		if n == 1 {
			want.m = all(1000)
		}
		check(t, []row{{"just n", list[:n], n, all(1000), want}})
	}
}

// P13.1: a list of nothing is one with nil, and a longer memory behind a list is not of it.
func TestNoList(t *testing.T) {
	for _, n := range sizes() {
		for _, l := range [][]api.Vec{nil, {}, line(1, 2, 3, 4, 5, 6, 7, 8)[:0]} {
			check(t, []row{{"none", l, n, v3(3, 2, 1), good(v3(3, 2, 1), v3(3, 2, 1))}})
		}
	}
}

// P13.1: equal numbers stand in a window as often as they came.
func TestEqual(t *testing.T) {
	check(t, []row{
		{"all", line(4, 4), 3, all(4), good(all(4), line(4, 4, 4)...)},
		{"two of three, low", line(4, 9), 3, all(4), good(all(4), line(4, 9, 4)...)},
		{"two of three, high", line(9, 4), 3, all(9), good(all(9), line(9, 4, 9)...)},
		{"three of five, low", line(2, 8, 2, 9), 5, all(2), good(all(2), line(2, 8, 2, 9, 2)...)},
		{"three of five, high", line(2, 8, 1, 8), 5, all(8), good(all(8), line(2, 8, 1, 8, 8)...)},
		{"two and two of five, low", line(2, 8, 2, 8), 5, all(1), good(all(2), line(2, 8, 2, 8, 1)...)},
		{"two and two of five, high", line(2, 8, 2, 8), 5, all(9), good(all(8), line(2, 8, 2, 8, 9)...)},
		{"two and two", line(2, 8, 8), 5, all(2), good(all(2), line(2, 8, 8, 2)...)},
		{"one and three", line(8, 8, 8), 5, all(2), good(all(8), line(8, 8, 8, 2)...)},
		{"three and three of seven", line(1, 5, 1, 5, 1), 7, all(5), good(all(1), line(1, 5, 1, 5, 1, 5)...)},
		{"equal in one number alone", []api.Vec{v3(7, 1, 3), v3(7, 2, 1)}, 3, v3(7, 3, 2), good(v3(7, 2, 2), v3(7, 1, 3), v3(7, 2, 1), v3(7, 3, 2))},
		{"zeroes", line(0, 0, 0, 0, 0, 0, 0), 7, all(0), good(all(0), line(0, 0, 0, 0, 0, 0, 0)...)},
		{"the same again", line(1, 1, 2), 3, all(2), good(all(2), line(1, 2, 2)...)},
	})
}

// P13.1: numbers at the greatest and the least word, at each place of the window and in each number.
func TestEndsOfWords(t *testing.T) {
	check(t, []row{
		{"the greatest", line(top, top), 3, all(top), good(all(top), line(top, top, top)...)},
		{"the least", line(-top, -top), 3, all(-top), good(all(-top), line(-top, -top, -top)...)},
		{"both", line(top), 3, all(-top), good(all(-top), line(top, -top)...)},
		{"both, the other way", line(-top), 3, all(top), good(all(-top), line(-top, top)...)},
		{"both and 0", line(top, -top), 3, all(0), good(all(0), line(top, -top, 0)...)},
		{"side by side", line(top, top-2), 3, all(top - 1), good(all(top-1), line(top, top-2, top-1)...)},
		{"side by side, below 0", line(-top, 2-top), 3, all(1 - top), good(all(1-top), line(-top, 2-top, 1-top)...)},
		{"most of them the greatest", line(top, -top, top, -top), 5, all(top), good(all(top), line(top, -top, top, -top, top)...)},
		{"most of them the least", line(top, -top, top, -top), 5, all(-top), good(all(-top), line(top, -top, top, -top, -top)...)},
		{"apart", []api.Vec{v3(top, -top, 0), v3(-top, top, top)}, 3, v3(0, 0, -top), good(v3(0, 0, 0), v3(top, -top, 0), v3(-top, top, top), v3(0, 0, -top))},
	})
	for _, n := range sizes() {
		for i := range 3 {
			for _, end := range []int64{top, -top} {
				window := slices.Repeat([]api.Vec{placed(all(3), i, end)}, n)
				check(t, []row{{"all of them", window, n, window[0], good(window[0], window...)}})
			}
		}
	}
}
