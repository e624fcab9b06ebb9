package step_test

import (
	"testing"

	"gimbal/api"
	"gimbal/step"
)

const (
	g     = 9806650
	upper = 11032481 // g and an eighth of it, rounded down
	lower = 9193735  // g less a sixteenth of it, rounded down
	high  = 12000000
	low   = 9000000
	top   = 1<<api.Bits - 1 // the greatest word
	clock = 1 << 40         // the last time, and the greatest count
)

// answer is what Take answers.
type answer struct {
	s    api.Step
	told bool
	e    api.Errno
}

func taken(s api.Step, m, now int64) answer {
	t, told, e := step.Take(s, m, now)
	return answer{t, told, e}
}

func up(last, count int64) api.Step   { return api.Step{Up: true, Last: last, Count: count} }
func down(last, count int64) api.Step { return api.Step{Last: last, Count: count} }

func quiet(s api.Step) answer        { return answer{s: s} }
func tells(last, count int64) answer { return answer{s: down(last, count), told: true} }
func bad(e api.Errno) answer         { return answer{e: e} }

type row struct {
	name   string
	s      api.Step
	m, now int64
	want   answer
}

func check(t *testing.T, rows []row) {
	t.Helper()
	for _, r := range rows {
		if got := taken(r.s, r.m, r.now); got != r.want {
			t.Errorf("%s: Take(%+v, %d, %d): %+v, not %+v", r.name, r.s, r.m, r.now, got, r.want)
		}
		if got := wantTake(r.s, r.m, r.now); got != r.want {
			t.Errorf("%s: the test itself is at odds: %+v, not %+v", r.name, got, r.want)
		}
	}
}

// part is a magnitude that is taken at a time, and what it makes of the state.
type part struct {
	m, now int64
	want   answer
}

// checkRun takes one part behind the other, each with the state that the one ahead of it answered.
func checkRun(t *testing.T, s api.Step, parts []part) api.Step {
	t.Helper()
	for _, p := range parts {
		check(t, []row{{"in a run", s, p.m, p.now, p.want}})
		s = p.want.s
	}
	return s
}

// P17.1: a rise and a fall are a step.
func TestOneStep(t *testing.T) {
	checkRun(t, api.Step{}, []part{
		{high, 0, quiet(up(0, 0))},
		{low, 0, tells(0, 1)},
	})
	checkRun(t, api.Step{}, []part{
		{g, 3, quiet(down(0, 0))},
		{high, 10, quiet(up(0, 0))},
		{g, 20, quiet(up(0, 0))},
		{low, 30, tells(30, 1)},
		{g, 40, quiet(down(30, 1))},
	})
}

// P17.1: what rises when it is up, and what falls when it is not, changes nothing.
func TestOnceEach(t *testing.T) {
	checkRun(t, api.Step{}, []part{
		{low, 1, quiet(down(0, 0))},
		{0, 2, quiet(down(0, 0))},
		{high, 3, quiet(up(0, 0))},
		{high, 4, quiet(up(0, 0))},
		{2 * high, 5, quiet(up(0, 0))},
		{g, 6, quiet(up(0, 0))},
		{high, 7, quiet(up(0, 0))},
		{low, 8, tells(8, 1)},
		{low, 300, quiet(down(8, 1))},
		{0, 600, quiet(down(8, 1))},
		{g, 900, quiet(down(8, 1))},
		{low, 1200, quiet(down(8, 1))},
	})
}

// P17.1: rises and falls one behind the other, far apart: each is counted.
func TestWalk(t *testing.T) {
	s := api.Step{}
	for n := int64(1); n <= 100; n++ {
		now := n * 500
		s = checkRun(t, s, []part{
			{high, now - 250, quiet(up(s.Last, n-1))},
			{low, now, tells(now, n)},
		})
	}
	if s != down(50000, 100) {
		t.Errorf("behind 100 steps: %+v", s)
	}
}

// P17.1: falls that come too soon are none of their own, but they are falls; what counts is how far they are from the last one that was told.
func TestTooSoon(t *testing.T) {
	checkRun(t, api.Step{}, []part{
		{high, 990, quiet(up(0, 0))}, {low, 1000, tells(1000, 1)},
		{high, 1090, quiet(up(1000, 1))}, {low, 1100, quiet(down(1000, 1))},
		{high, 1190, quiet(up(1000, 1))}, {low, 1200, quiet(down(1000, 1))},
		{low, 1260, quiet(down(1000, 1))}, // it has fallen already
		{high, 1290, quiet(up(1000, 1))}, {low, 1300, tells(1300, 2)},
		{high, 1301, quiet(up(1300, 2))}, {low, 1302, quiet(down(1300, 2))},
		{high, 1540, quiet(up(1300, 2))}, {low, 1550, tells(1550, 3)},
	})
}

// P17.1: the room is asked for by the falls; the rises may come at any time.
func TestRises(t *testing.T) {
	checkRun(t, down(1000, 7), []part{
		{high, 1000, quiet(up(1000, 7))},
		{low, 1250, tells(1250, 8)},
		{high, 5000, quiet(up(1250, 8))},
		{low, 5001, tells(5001, 9)},
		{high, 5002, quiet(up(5001, 9))},
		{low, 9000, tells(9000, 10)},
	})
}

// P17.1: the first step is told at any time, however near to Last.
func TestFirst(t *testing.T) {
	for _, last := range []int64{0, 1, 100, 249, 250, 1 << 31, 1 << 32, clock - 249, clock} {
		for _, later := range []int64{0, 1, 2, 100, 248, 249, 250, 251, 1000, 1 << 33} {
			now := min(last+later, clock)
			check(t, []row{
				{"the first", up(last, 0), low, now, tells(now, 1)},
				{"not the first", up(last, 1), low, now, answerBy(now-last >= 250, tells(now, 2), quiet(down(last, 1)))},
			})
		}
	}
}

// answerBy is the one if it holds, else the other.
func answerBy(holds bool, one, other answer) answer {
	if holds {
		return one
	}
	return other
}
