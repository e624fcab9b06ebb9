package fall_test

import (
	"testing"

	"gimbal/api"
)

// P20.1: the limits of all of it that both limits and the times hang on.
func TestLimits(t *testing.T) {
	if api.Gravity != g || api.MaxClock != clock || api.Bits != 45 {
		t.Errorf("Gravity %d, MaxClock %d, Bits %d", api.Gravity, api.MaxClock, api.Bits)
	}
}

// P20.1: m at a quarter of gravity, one below it and one above it, in each of the states.
func TestLowerLimit(t *testing.T) {
	for _, since := range []int64{0, 1, 1000, 1 << 32, clock - 100} {
		soon, then := since+99, since+100
		check(t, []row{
			{"just below it", high, 2451661, then, quiet(low(then))},
			{"at it", high, 2451662, then, quiet(high)},
			{"just above it", high, 2451663, then, quiet(high)},
			{"just below it, low", low(since), 2451661, then, tells(since)},
			{"at it, low", low(since), 2451662, then, quiet(low(since))},
			{"just above it, low", low(since), 2451663, then, quiet(low(since))},
			{"just below it, low, too soon", low(since), 2451661, soon, quiet(low(since))},
			{"at it, low, too soon", low(since), 2451662, soon, quiet(low(since))},
			{"just above it, low, too soon", low(since), 2451663, soon, quiet(low(since))},
			{"just below it, told", fallen(since), 2451661, then, quiet(fallen(since))},
			{"at it, told", fallen(since), 2451662, then, quiet(fallen(since))},
			{"just above it, told", fallen(since), 2451663, then, quiet(fallen(since))},
		})
	}
}

// P20.1: m at a half of gravity, one below it and one above it, likewise.
func TestUpperLimit(t *testing.T) {
	for _, since := range []int64{0, 1, 1000, 1 << 32, clock - 100} {
		for _, now := range []int64{since, since + 99, since + 100, clock} {
			check(t, []row{
				{"just below it", high, 4903324, now, quiet(high)},
				{"at it", high, 4903325, now, quiet(high)},
				{"just above it", high, 4903326, now, quiet(high)},
				{"just below it, low", low(since), 4903324, now, quiet(low(since))},
				{"at it, low", low(since), 4903325, now, quiet(low(since))},
				{"just above it, low", low(since), 4903326, now, quiet(high)},
				{"just below it, told", fallen(since), 4903324, now, quiet(fallen(since))},
				{"at it, told", fallen(since), 4903325, now, quiet(fallen(since))},
				{"just above it, told", fallen(since), 4903326, now, quiet(high)},
			})
		}
	}
}

// P20.1: all magnitudes near both limits.
func TestNearTheLimits(t *testing.T) {
	for off := int64(-40); off <= 40; off++ {
		not, is, was := quiet(high), quiet(low(9)), quiet(fallen(9))
		if off < 0 {
			not, is = quiet(low(500)), tells(9)
		}
		check(t, []row{
			{"near the lower limit", high, lower + off, 500, not},
			{"near the lower limit, low", low(9), lower + off, 500, is},
			{"near the lower limit, told", fallen(9), lower + off, 500, was},
		})
		is, was = quiet(low(9)), quiet(fallen(9))
		if off > 0 {
			is, was = quiet(high), quiet(high)
		}
		check(t, []row{
			{"near the upper limit", high, upper + off, 500, quiet(high)},
			{"near the upper limit, low", low(9), upper + off, 500, is},
			{"near the upper limit, told", fallen(9), upper + off, 500, was},
		})
	}
}

// P20.1: now - Since at 99, 100 and 101, and far from them.
func TestLasting(t *testing.T) {
	for _, since := range []int64{0, 1, 99, 100, 101, 1 << 32, clock - 101} {
		for _, m := range []int64{0, 1, lower - 1} {
			check(t, []row{
				{"at once", low(since), m, since, quiet(low(since))},
				{"one tick", low(since), m, since + 1, quiet(low(since))},
				{"98", low(since), m, since + 98, quiet(low(since))},
				{"99", low(since), m, since + 99, quiet(low(since))},
				{"100", low(since), m, since + 100, tells(since)},
				{"101", low(since), m, since + 101, tells(since)},
				{"the end", low(since), m, clock, tells(since)},
				{"99, told", fallen(since), m, since + 99, quiet(fallen(since))},
				{"100, told", fallen(since), m, since + 100, quiet(fallen(since))},
				{"101, told", fallen(since), m, since + 101, quiet(fallen(since))},
			})
		}
	}
}

// P20.1: now at Since, and one below it.
func TestAtSince(t *testing.T) {
	none := bad(api.ErrForm)
	for _, since := range []int64{1, 2, 99, 100, 1 << 32, clock - 1, clock} {
		check(t, []row{
			{"at it", low(since), 0, since, quiet(low(since))},
			{"at it, between", low(since), mid, since, quiet(low(since))},
			{"at it, above", low(since), g, since, quiet(high)},
			{"at it, told", fallen(since), 0, since, quiet(fallen(since))},
			{"at it, told, between", fallen(since), mid, since, quiet(fallen(since))},
			{"at it, told, above", fallen(since), g, since, quiet(high)},
			{"one below it", low(since), 0, since - 1, none},
			{"one below it, between", low(since), mid, since - 1, none},
			{"one below it, above", low(since), g, since - 1, none},
			{"one below it, told", fallen(since), 0, since - 1, none},
			{"one below it, told, above", fallen(since), g, since - 1, none},
		})
	}
}

// P20.1: Since and now at 0 and at the last time.
func TestEndsOfTime(t *testing.T) {
	for _, now := range []int64{0, clock} {
		check(t, []row{
			{"weightless", high, 0, now, quiet(low(now))},
			{"between", high, mid, now, quiet(high)},
			{"above", high, g, now, quiet(high)},
			{"weightless, low", low(now), 0, now, quiet(low(now))},
			{"between, low", low(now), mid, now, quiet(low(now))},
			{"above, low", low(now), g, now, quiet(high)},
			{"weightless, told", fallen(now), 0, now, quiet(fallen(now))},
			{"between, told", fallen(now), mid, now, quiet(fallen(now))},
			{"above, told", fallen(now), g, now, quiet(high)},
		})
	}
	check(t, []row{
		{"all of the time between", low(0), 0, clock, tells(0)},
		{"all of the time between, told", fallen(0), 0, clock, quiet(fallen(0))},
		{"the last that is long enough", low(clock - 100), 0, clock, tells(clock - 100)},
		{"the first that is too short", low(clock - 99), 0, clock, quiet(low(clock - 99))},
	})
}

// P20.1: m at 0 and at the greatest word.
func TestEndsOfMagnitude(t *testing.T) {
	for _, m := range []int64{upper + 1, g, 1 << 32, 1<<32 + 5, 1 << 44, top - 1, top} {
		check(t, []row{
			{"great", high, m, 255, quiet(high)},
			{"great, low", low(5), m, 255, quiet(high)},
			{"great, told", fallen(5), m, 255, quiet(high)},
		})
	}
	for _, m := range []int64{0, 1, 2, 1 << 20, lower - 1} {
		check(t, []row{
			{"small", high, m, 255, quiet(low(255))},
			{"small, low", low(155), m, 255, tells(155)},
			{"small, low, too soon", low(156), m, 255, quiet(low(156))},
			{"small, told", fallen(5), m, 255, quiet(fallen(5))},
		})
	}
}
