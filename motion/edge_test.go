package motion_test

import (
	"testing"

	"gimbal/api"
)

// P21.1: the limits of all of it that the spread and the times hang on.
func TestLimits(t *testing.T) {
	if api.Gravity != g || api.MaxClock != clock || api.Bits != 45 {
		t.Errorf("Gravity %d, MaxClock %d, Bits %d", api.Gravity, api.MaxClock, api.Bits)
	}
}

// P21.1: now - Start at 999, 1000 and 1001, and far from them.
func TestWindowEnds(t *testing.T) {
	for _, start := range []int64{0, 1, 999, 1000, 1001, 1 << 32, clock - 1001} {
		x := on(start, 4, 7, 0b1111)
		for _, later := range []int64{0, 1, 500, 998, 999} {
			check(t, []row{
				{"within it, lower", x, 3, start + later, quiet(on(start, 3, 7, 0b1111))},
				{"within it, between", x, 5, start + later, quiet(x)},
				{"within it, higher", x, 8, start + later, quiet(on(start, 4, 8, 0b1111))},
				{"within it, told", toldOf(x), 8, start + later, quiet(toldOf(on(start, 4, 8, 0b1111)))},
			})
		}
		for _, now := range []int64{start + 1000, start + 1001, clock} {
			check(t, []row{
				{"the end, still", x, 3, now, quiet(on(now, 3, 3, 0b11110))},
				{"the end, moved", on(start, 4, g, 0b111), 8, now, quiet(on(now, 8, 8, 0b1111))},
				{"the end, told", toldOf(x), 5, now, quiet(toldOf(on(now, 5, 5, 0b11110)))},
				{"the end, telling", on(start, 4, g, 0b1111), 5, now, tells(on(now, 5, 5, 0b11111))},
				{"the end, told no more", toldOf(on(start, 4, 7, 128)), 5, now, quiet(on(now, 5, 5, 0))},
			})
		}
	}
}

// P21.1: Max - Min at a tenth of gravity, one below it and one above it, and others.
func TestSpread(t *testing.T) {
	for _, least := range []int64{0, 1, 12345, tenth, g, 1 << 32, top - tenth - 1} {
		for _, apart := range []int64{0, 1, tenth / 2, tenth - 2, 980664, 980665} {
			check(t, []row{
				{"not above it", on(0, least, least+apart, 0), 9, 1000, quiet(on(1000, 9, 9, 0))},
				{"not above it, four", on(0, least, least+apart, 0b1111), 9, 1000, quiet(on(1000, 9, 9, 0b11110))},
			})
		}
		check(t, []row{
			{"above it", on(0, least, least+980666, 0), 9, 1000, quiet(on(1000, 9, 9, 1))},
			{"above it, four", on(0, least, least+980666, 0b1111), 9, 1000, tells(on(1000, 9, 9, 0b11111))},
		})
	}
	for _, apart := range []int64{980667, 2 * tenth, g, 1 << 32, 1<<32 + 5, 1 << 44, top - 1, top} {
		check(t, []row{{"far above it", on(0, 0, apart, 0), 9, 1000, quiet(on(1000, 9, 9, 1))}})
	}
}

// P21.1: the magnitude that ends a window does not belong to it: neither a far lower nor a far higher one makes it move.
func TestEndsWith(t *testing.T) {
	for _, m := range []int64{0, g - tenth - 1, g - tenth, g, g + tenth, g + tenth + 1, top} {
		check(t, []row{
			{"still", on(0, g, g, 0b1111), m, 1000, quiet(on(1000, m, m, 0b11110))},
			{"still, just so", on(0, g, g+tenth, 0b1111), m, 1000, quiet(on(1000, m, m, 0b11110))},
			{"moved", on(0, g, g+tenth+1, 0b1111), m, 1000, tells(on(1000, m, m, 0b11111))},
		})
	}
}

// P21.1: Moved at its ends and about a half, each with a window that moved and with one that did not.
func TestMoved(t *testing.T) {
	still := func(moved int) api.Motion { return on(7, g, g+tenth, moved) }
	shook := func(moved int) api.Motion { return on(7, g, g+tenth+1, moved) }
	next := func(moved int) api.Motion { return on(1007, g, g, moved) }
	check(t, []row{
		{"0, still", still(0), g, 1007, quiet(next(0))},
		{"0, moved", shook(0), g, 1007, quiet(next(1))},
		{"1, still", still(1), g, 1007, quiet(next(2))},
		{"1, moved", shook(1), g, 1007, quiet(next(3))},
		{"127, still", still(127), g, 1007, tells(next(254))},
		{"127, moved", shook(127), g, 1007, tells(next(255))},
		{"128, still", still(128), g, 1007, quiet(next(0))},
		{"128, moved", shook(128), g, 1007, quiet(next(1))},
		{"255, still", still(255), g, 1007, tells(next(254))},
		{"255, moved", shook(255), g, 1007, tells(next(255))},
		{"0, still, told", toldOf(still(0)), g, 1007, quiet(next(0))},
		{"0, moved, told", toldOf(shook(0)), g, 1007, quiet(toldOf(next(1)))},
		{"1, still, told", toldOf(still(1)), g, 1007, quiet(toldOf(next(2)))},
		{"1, moved, told", toldOf(shook(1)), g, 1007, quiet(toldOf(next(3)))},
		{"127, still, told", toldOf(still(127)), g, 1007, quiet(toldOf(next(254)))},
		{"127, moved, told", toldOf(shook(127)), g, 1007, quiet(toldOf(next(255)))},
		{"128, still, told", toldOf(still(128)), g, 1007, quiet(next(0))},
		{"128, moved, told", toldOf(shook(128)), g, 1007, quiet(toldOf(next(1)))},
		{"255, still, told", toldOf(still(255)), g, 1007, quiet(toldOf(next(254)))},
		{"255, moved, told", toldOf(shook(255)), g, 1007, quiet(toldOf(next(255)))},
	})
}

// P21.1: four, five and six bits that are 1 behind the window's end, with Told false and with Told true.
func TestEnough(t *testing.T) {
	for _, c := range []struct{ moved, next, count int }{
		{0b111, 0b1111, 4}, {0b1010010, 0b10100101, 4}, {0b11100000, 0b11000001, 3}, {0b11110000, 0b11100001, 4},
		{0b1111, 0b11111, 5}, {0b1111000, 0b11110001, 5}, {0b11001100, 0b10011001, 4}, {0b11011100, 0b10111001, 5},
		{0b11111, 0b111111, 6}, {0b1010111, 0b10101111, 6}, {0b11111010, 0b11110101, 6}, {0b1111111, 0b11111111, 8},
	} {
		x, next := on(5, 0, g, c.moved), on(1005, 3, 3, c.next)
		want := quiet(next)
		if c.count >= 5 {
			want = tells(next)
		}
		check(t, []row{
			{"not told", x, 3, 1005, want},
			{"told", toldOf(x), 3, 1005, quiet(toldOf(next))},
		})
	}
}

// P21.1: five bits that are 1 are told too where the window that ends did not move.
func TestEnoughThoughStill(t *testing.T) {
	for _, c := range []struct{ moved, next, count int }{
		{0b1111, 0b11110, 4}, {0b11111, 0b111110, 5}, {0b111111, 0b1111110, 6}, {0b11111000, 0b11110000, 4}, {0b11111001, 0b11110010, 5},
	} {
		x, next := on(5, g, g, c.moved), on(1005, 3, 3, c.next)
		want := quiet(next)
		if c.count >= 5 {
			want = tells(next)
		}
		check(t, []row{
			{"not told", x, 3, 1005, want},
			{"told", toldOf(x), 3, 1005, quiet(toldOf(next))},
		})
	}
}

// P21.1: every Moved there is, with a window that moved and with one that did not, told and not: with the oracle's text of digits alone.
func TestEveryMoved(t *testing.T) {
	for moved := range 256 {
		for _, most := range []int64{g, g + tenth, g + tenth + 1} {
			for _, x := range []api.Motion{on(5, g, most, moved), toldOf(on(5, g, most, moved))} {
				for _, now := range []int64{5, 1004, 1005} {
					if got, want := taken(x, 6, now), wantTake(x, 6, now); got != want {
						t.Errorf("Take(%+v, 6, %d): %+v, not %+v", x, now, got, want)
					}
				}
			}
		}
	}
}

// P21.1: within a window Moved and Told stay as they are, whatever they are.
func TestWithin(t *testing.T) {
	for _, moved := range []int{0, 1, 0b1111, 0b11111, 127, 128, 254, 255} {
		x := on(5, g, g+tenth+1, moved)
		check(t, []row{
			{"within it", x, g, 1004, quiet(x)},
			{"within it, told", toldOf(x), g, 1004, quiet(toldOf(x))},
		})
	}
}

// P21.1: the last of eight windows that did not move.
func TestLastStill(t *testing.T) {
	for back := range 8 {
		moved := 1 << back
		want := quiet(toldOf(on(1005, 3, 3, 2*moved)))
		if back == 7 {
			want = quiet(on(1005, 3, 3, 0))
		}
		check(t, []row{{"still", toldOf(on(5, g, g, moved)), 3, 1005, want}})
	}
}

// P21.1: now at Start, and one below it.
func TestAtStart(t *testing.T) {
	for _, start := range []int64{1, 2, 999, 1000, 1 << 32, clock - 1, clock} {
		x := on(start, 4, 7, 0b11111)
		for _, y := range []api.Motion{x, toldOf(x)} {
			lower := y
			lower.Min = 3
			check(t, []row{
				{"at it", y, 5, start, quiet(y)},
				{"at it, lower", y, 3, start, quiet(lower)},
				{"one below it", y, 5, start - 1, bad(api.ErrForm)},
				{"one below it, lower", y, 3, start - 1, bad(api.ErrForm)},
			})
		}
	}
}

// P21.1: Start and now at 0 and at the last time.
func TestEndsOfTime(t *testing.T) {
	for _, now := range []int64{0, clock} {
		check(t, []row{
			{"off", off, 6, now, quiet(on(now, 6, 6, 0))},
			{"on", on(now, 4, 5, 3), 6, now, quiet(on(now, 4, 6, 3))},
			{"on, told", toldOf(on(now, 4, 5, 3)), 6, now, quiet(toldOf(on(now, 4, 6, 3)))},
		})
	}
	check(t, []row{
		{"all of the time between", on(0, 0, g, 0b1111), 6, clock, tells(on(clock, 6, 6, 0b11111))},
		{"all of the time between, still", on(0, g, g, 0b1111), 6, clock, quiet(on(clock, 6, 6, 0b11110))},
		{"the last that is long enough", on(clock-1000, 0, g, 0), 6, clock, quiet(on(clock, 6, 6, 1))},
		{"the first that is too short", on(clock-999, 5, g, 0), 4, clock, quiet(on(clock-999, 4, g, 0))},
	})
}

// P21.1: a magnitude of 0 and the greatest word, Min and Max alike and at both ends.
func TestEndsOfMagnitude(t *testing.T) {
	check(t, []row{
		{"0, off", off, 0, 9, quiet(on(9, 0, 0, 0))},
		{"the greatest, off", off, top, 9, quiet(on(9, top, top, 0))},
		{"0, alike", on(3, g, g, 0), 0, 9, quiet(on(3, 0, g, 0))},
		{"the greatest, alike", on(3, g, g, 0), top, 9, quiet(on(3, g, top, 0))},
		{"the same, alike", on(3, g, g, 0), g, 9, quiet(on(3, g, g, 0))},
		{"0 in all", on(3, 0, 0, 0), 0, 9, quiet(on(3, 0, 0, 0))},
		{"the greatest in all", on(3, top, top, 0), top, 9, quiet(on(3, top, top, 0))},
		{"from end to end", on(3, 0, top, 0), 0, 9, quiet(on(3, 0, top, 0))},
		{"0, the end, alike", on(3, 0, 0, 1), 0, 1003, quiet(on(1003, 0, 0, 2))},
		{"the greatest, the end, alike", on(3, top, top, 1), top, 1003, quiet(on(1003, top, top, 2))},
		{"0, the end, from end to end", on(3, 0, top, 1), 0, 1003, quiet(on(1003, 0, 0, 3))},
		{"the greatest, the end, from end to end", on(3, 0, top, 1), top, 1003, quiet(on(1003, top, top, 3))},
	})
}
