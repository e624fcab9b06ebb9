package tap_test

import (
	"testing"

	"gimbal/api"
)

// P18.1: the limits of all of it that jerks and times hang on.
func TestLimits(t *testing.T) {
	if api.Gravity != g || api.MaxClock != clock || api.Bits != 45 {
		t.Errorf("Gravity %d, MaxClock %d, Bits %d", api.Gravity, api.MaxClock, api.Bits)
	}
}

// checkJerk takes the step from one vector to the other in every phase: whether it is above Gravity shows in each.
func checkJerk(t *testing.T, from, to api.Vec, above bool) {
	t.Helper()
	const now = 1000
	if above {
		check(t, []row{
			{"begins", resting(from, 0), to, now, quiet(jerking(to, now+1, 0))},
			{"begins, behind a tap", resting(from, 901), to, now, quiet(jerking(to, now+1, 901))},
			{"goes on", jerking(from, 951, 0), to, now, quiet(jerking(to, 951, 0))},
			{"goes on, behind a tap", jerking(from, 951, 901), to, now, quiet(jerking(to, 951, 901))},
			{"goes on, too long", jerking(from, 1, 901), to, now, quiet(jerking(to, 1, 901))},
		})
		return
	}
	check(t, []row{
		{"is none", resting(from, 0), to, now, quiet(resting(to, 0))},
		{"is none, behind a tap", resting(from, 901), to, now, quiet(resting(to, 901))},
		{"is over", jerking(from, 951, 0), to, now, tells(1, resting(to, now+1))},
		{"is over, behind a tap", jerking(from, 951, 901), to, now, tells(2, resting(to, 0))},
		{"is over, too late", jerking(from, 1, 901), to, now, quiet(resting(to, 901))},
	})
}

// P18.1: a jerk that is just Gravity, and those near it, along each axis, from anywhere.
func TestJustGravity(t *testing.T) {
	for _, from := range []int64{0, 1, -1, g, -g, 2 * g, 1 << 32, -1 << 44, top - 2*g, 2*g - top} {
		for _, away := range []int64{-g, -100, -2, -1, 0, 1, 2, 100, g} {
			for _, sign := range []int64{1, -1} {
				to := from + sign*(g+away)
				checkJerk(t, vx(from), vx(to), away > 0)
				checkJerk(t, v3(0, from, 0), v3(0, to, 0), away > 0)
				checkJerk(t, v3(0, 0, from), v3(0, 0, to), away > 0)
				checkJerk(t, v3(7, from, -9), v3(7, to, -9), away > 0)
			}
		}
	}
}

// P18.1: what is held against Gravity is rounded: a jerk that is not half a unit above it is not above it.
func TestRoundedJerk(t *testing.T) {
	const most = 3131 // its square is just not above Gravity and a quarter
	for _, sign := range []int64{1, -1} {
		checkJerk(t, v3(0, 0, 5), v3(sign*g, 1, 5), false)
		checkJerk(t, v3(0, 0, 5), v3(sign*g, most, 5), false)
		checkJerk(t, v3(0, 0, 5), v3(sign*g, -most, 5), false)
		checkJerk(t, v3(0, 0, 5), v3(sign*g, most+1, 5), true)
		checkJerk(t, v3(0, 0, 5), v3(sign*g, -most-1, 5), true)
		checkJerk(t, v3(0, 0, 5), v3(sign*(g-1), most+1, 5), false)
		checkJerk(t, v3(3, 4, 5), v3(3, 4+sign*most, 5-g), false)
		checkJerk(t, v3(3, 4, 5), v3(3+sign*(most+1), 4, 5-g), true)
	}
}

// P18.1: now + 1 - Since about 60.
func TestLength(t *testing.T) {
	for _, since := range []int64{1, 2, 300, 1 << 32, clock - 63} {
		for long := int64(0); long <= 64; long++ {
			now := since + long - 1
			alone, behind := tells(1, resting(vx(5), now+1)), tells(2, resting(vx(5), 0))
			if long > 60 {
				alone, behind = quiet(resting(vx(5), 0)), quiet(resting(vx(5), since))
			}
			check(t, []row{
				{"alone", jerking(vx(1), since, 0), vx(5), now, alone},
				{"behind a tap", jerking(vx(1), since, since), vx(5), now, behind},
				{"still a jerk", jerking(vx(1), since, 0), vx(2 * g), now, quiet(jerking(vx(2*g), since, 0))},
			})
		}
	}
	check(t, []row{
		{"all of the time", jerking(vx(1), 1, 1), vx(5), clock, quiet(resting(vx(5), 1))},
		{"but the first 60", jerking(vx(1), clock+1-60, 1), vx(5), clock, tells(1, resting(vx(5), clock+1))},
		{"but the first 61", jerking(vx(1), clock+1-61, 1), vx(5), clock, quiet(resting(vx(5), 1))},
	})
}

// P18.1: now + 1 - Prev about 300.
func TestGap(t *testing.T) {
	for _, prev := range []int64{1, 2, 60, 500, 1 << 32, clock - 309} {
		for gap := int64(0); gap <= 310; gap++ {
			now := prev + gap - 1
			behind := tells(2, resting(vx(5), 0))
			if gap > 300 {
				behind = tells(1, resting(vx(5), now+1))
			}
			short, long := now+1-min(gap, 60), now+1-61
			check(t, []row{
				{"a tap", jerking(vx(1), short, prev), vx(5), now, behind},
				{"a tap at once", jerking(vx(1), now+1, prev), vx(5), now, behind},
				{"no jerk", resting(vx(1), prev), vx(5), now, quiet(resting(vx(5), prev))},
			})
			if long > 0 {
				check(t, []row{{"too long a jerk", jerking(vx(1), long, prev), vx(5), now, quiet(resting(vx(5), prev))}})
			}
		}
	}
	check(t, []row{
		{"all of the time", jerking(vx(1), clock, 1), vx(5), clock, tells(1, resting(vx(5), clock+1))},
		{"300 from the end", jerking(vx(1), clock, clock+1-300), vx(5), clock, tells(2, resting(vx(5), 0))},
		{"301 from the end", jerking(vx(1), clock, clock+1-301), vx(5), clock, tells(1, resting(vx(5), clock+1))},
	})
}

// P18.1: Prev at 0 is no tap, however early it is; Since at 0 is no jerk.
func TestNoneAtTheBeginning(t *testing.T) {
	for now := int64(0); now <= 310; now++ {
		since := max(1, now+1-60)
		check(t, []row{
			{"no tap", jerking(vx(1), since, 0), vx(5), now, tells(1, resting(vx(5), now+1))},
			{"no jerk", resting(vx(1), 0), vx(5), now, quiet(resting(vx(5), 0))},
			{"no jerk, behind a tap", resting(vx(1), 1), vx(5), now, quiet(resting(vx(5), 1))},
			{"a jerk begins", resting(vx(1), 0), vx(2 * g), now, quiet(jerking(vx(2*g), now+1, 0))},
		})
		behind := tells(2, resting(vx(5), 0))
		if now > 300 {
			behind = tells(1, resting(vx(5), now+1))
		}
		check(t, []row{{"the least tap", jerking(vx(1), since, 1), vx(5), now, behind}})
	}
}

// P18.1: now + 1 at Since, and at Prev, and one below each.
func TestAtTheMarks(t *testing.T) {
	for _, mark := range []int64{1, 2, 300, 1 << 32, clock, clock + 1} {
		now := mark - 1
		check(t, []row{
			{"at Since", jerking(vx(1), mark, 0), vx(5), now, tells(1, resting(vx(5), mark))},
			{"at Since, still a jerk", jerking(vx(1), mark, 0), vx(2 * g), now, quiet(jerking(vx(2*g), mark, 0))},
			{"at Prev", resting(vx(1), mark), vx(5), now, quiet(resting(vx(5), mark))},
			{"at Prev, a jerk", resting(vx(1), mark), vx(2 * g), now, quiet(jerking(vx(2*g), mark, mark))},
			{"at both", jerking(vx(1), mark, mark), vx(5), now, tells(2, resting(vx(5), 0))},
			{"one below Since", jerking(vx(1), mark, 0), vx(5), now - 1, bad(api.ErrForm)},
			{"one below Since, still a jerk", jerking(vx(1), mark, 0), vx(2 * g), now - 1, bad(api.ErrForm)},
			{"one below Prev", resting(vx(1), mark), vx(5), now - 1, bad(api.ErrForm)},
			{"one below both", jerking(vx(1), mark, mark), vx(5), now - 1, bad(api.ErrForm)},
		})
		if mark > 1 {
			check(t, []row{
				{"one below Since alone", jerking(vx(1), mark, mark-1), vx(5), now - 1, bad(api.ErrForm)},
				{"one below Prev alone", jerking(vx(1), mark-1, mark), vx(5), now - 1, bad(api.ErrForm)},
				{"at Since, behind Prev", jerking(vx(1), mark, mark-1), vx(5), now, tells(2, resting(vx(5), 0))},
				{"at Prev, behind Since", jerking(vx(1), mark-1, mark), vx(5), now, tells(2, resting(vx(5), 0))},
			})
		}
	}
}

// P18.1: now at 0 and at the last time.
func TestEndsOfTime(t *testing.T) {
	for _, now := range []int64{0, clock} {
		checkRun(t, api.Tap{}, []part{
			{vx(0), now, quiet(resting(vx(0), 0))},
			{vx(2 * g), now, quiet(jerking(vx(2*g), now+1, 0))},
			{vx(2 * g), now, tells(1, resting(vx(2*g), now+1))},
			{vx(0), now, quiet(jerking(vx(0), now+1, now+1))},
			{vx(0), now, tells(2, resting(vx(0), 0))},
		})
	}
	checkRun(t, resting(vx(0), 0), []part{
		{vx(2 * g), clock - 60, quiet(jerking(vx(2*g), clock-59, 0))},
		{vx(2 * g), clock, tells(1, resting(vx(2*g), clock+1))},
	})
	checkRun(t, resting(vx(0), 0), []part{
		{vx(2 * g), clock - 61, quiet(jerking(vx(2*g), clock-60, 0))},
		{vx(2 * g), clock, quiet(resting(vx(2*g), 0))},
	})
}

// ends are steps to a vector that is just as far as a word, or just farther.
func ends() []struct {
	from, to api.Vec
	farther  bool
} {
	const edge = 5931641 // its square is just not above top, so that with top it does not make another half
	return []struct {
		from, to api.Vec
		farther  bool
	}{
		{vx(0), vx(top), false},
		{vx(0), vx(-top), false},
		{vx(-1), vx(top - 1), false},
		{vx(-1), vx(top), true},
		{vx(1), vx(-top), true},
		{vx(-top), vx(0), false},
		{vx(-top), vx(1), true},
		{vx(-top), vx(top), true},
		{vx(1 << 44), vx(-1<<44 + 1), false},
		{vx(1 << 44), vx(-1 << 44), true},
		{v3(0, -1, 0), v3(0, top-1, 0), false},
		{v3(0, -1, 0), v3(0, top, 0), true},
		{v3(0, 0, 1), v3(0, 0, 1-top), false},
		{v3(0, 0, 1), v3(0, 0, -top), true},
		{v3(0, top, 0), v3(0, -top, 0), true},
		{v3(0, 0, -top), v3(0, 0, top), true},
		{v3(0, 0, 0), v3(edge, 0, -top), false},
		{v3(0, 0, 0), v3(edge+1, 0, -top), true},
		{v3(7, 1, -5), v3(7+edge, -top+1, -5), false},
		{v3(7, 1, -5), v3(7, -top+1, -6-edge), true},
		{v3(0, 0, 0), v3(0, top-1, edge+1), false},
		{v3(0, 0, 0), v3(top, top, 0), true},
		{v3(0, 0, 0), v3(top, top, top), true},
		{v3(1<<43, 1<<43, 1<<43), v3(-1<<43, -1<<43, -1<<43), false},
		{v3(top, -top, top), v3(-top, top, -top), true},
		{v3(top, -top, top), v3(top, -top, top-g-1), false},
	}
}

// P18.1: a difference, or a norm, that is just a word, and one that is none.
func TestEndsOfWords(t *testing.T) {
	for _, c := range ends() {
		if !c.farther {
			checkJerk(t, c.from, c.to, true)
			continue
		}
		for _, s := range []api.Tap{resting(c.from, 0), resting(c.from, 901), jerking(c.from, 951, 0), jerking(c.from, 951, 901), jerking(c.from, 1, 901)} {
			check(t, []row{{"too far", s, c.to, 1000, bad(api.ErrRange)}})
		}
	}
}

// R4: beside ErrRange nothing has changed: the state that was given goes on as it did.
func TestBehindTooFar(t *testing.T) {
	s := jerking(vx(-1), 951, 901)
	for range 3 {
		check(t, []row{
			{"too far", s, vx(top), 1000, bad(api.ErrRange)},
			{"near", s, vx(-1), 1000, tells(2, resting(vx(-1), 0))},
		})
	}
}

// P18.1: vectors as great as may be that stand near each other are no jerk.
func TestGreatVectors(t *testing.T) {
	for _, v := range []api.Vec{v3(top, top, top), v3(-top, -top, -top), v3(top, -top, 0)} {
		checkJerk(t, v, v, false)
		checkJerk(t, v, v3(v.X, v.Y-v.Y/top, v.Z), false)
		checkJerk(t, v, v3(v.X-v.X/top*g, v.Y, v.Z), false)
		checkJerk(t, v, v3(v.X-v.X/top*(g+1), v.Y, v.Z), true)
	}
}
