package fall_test

import (
	"testing"

	"gimbal/api"
	"gimbal/fall"
)

const (
	g     = 9806650
	lower = 2451662         // a quarter of g, rounded down
	upper = 4903325         // a half of g
	mid   = 3000000         // between both
	top   = 1<<api.Bits - 1 // the greatest word
	clock = 1 << 40         // the last time
)

// answer is what Take answers.
type answer struct {
	f    api.Fall
	told bool
	e    api.Errno
}

func taken(f api.Fall, m, now int64) answer {
	next, told, e := fall.Take(f, m, now)
	return answer{next, told, e}
}

var high = api.Fall{} // the only state that is not low

func low(since int64) api.Fall    { return api.Fall{Low: true, Since: since} }
func fallen(since int64) api.Fall { return api.Fall{Low: true, Told: true, Since: since} }

func quiet(f api.Fall) answer  { return answer{f: f} }
func tells(since int64) answer { return answer{f: fallen(since), told: true} }
func bad(e api.Errno) answer   { return answer{e: e} }

type row struct {
	name   string
	f      api.Fall
	m, now int64
	want   answer
}

func check(t *testing.T, rows []row) {
	t.Helper()
	for _, r := range rows {
		if got := taken(r.f, r.m, r.now); got != r.want {
			t.Errorf("%s: Take(%+v, %d, %d): %+v, not %+v", r.name, r.f, r.m, r.now, got, r.want)
		}
		if got := wantTake(r.f, r.m, r.now); got != r.want {
			t.Errorf("%s: the test itself is at odds: %+v, not %+v", r.name, got, r.want)
		}
	}
}

// part is a magnitude that is taken at a time, and what is answered.
type part struct {
	m, now int64
	want   answer
}

// checkRun takes one part behind the other, each with the state that the one ahead of it answered.
func checkRun(t *testing.T, f api.Fall, parts []part) api.Fall {
	t.Helper()
	for _, p := range parts {
		check(t, []row{{"in a run", f, p.m, p.now, p.want}})
		f = p.want.f
	}
	return f
}

// P20.1: the chapter's example: 0 for 100 ticks, told at the last one.
func TestExample(t *testing.T) {
	for _, first := range []int64{0, 1, 7, 1000, 1 << 32, clock - 100} {
		f := high
		for later := range int64(101) {
			want := quiet(low(first))
			if later == 100 {
				want = tells(first)
			}
			f = checkRun(t, f, []part{{0, first + later, want}})
		}
	}
}

// P20.1: weightless for less than the time, then between both limits, then above the upper one: nothing is told, and it begins anew.
func TestTooShort(t *testing.T) {
	checkRun(t, high, []part{
		{g, 3, quiet(high)},
		{0, 10, quiet(low(10))},
		{1000, 60, quiet(low(10))},
		{0, 109, quiet(low(10))},
		{mid, 112, quiet(low(10))},
		{g, 115, quiet(high)},
		{0, 116, quiet(low(116))},
		{0, 215, quiet(low(116))},
		{0, 216, tells(116)},
	})
}

// P20.1: between both limits nothing changes: what is weightless before and behind it is one fall.
func TestBetween(t *testing.T) {
	checkRun(t, high, []part{
		{mid, 1, quiet(high)},
		{mid, 500, quiet(high)},
		{0, 510, quiet(low(510))},
		{mid, 520, quiet(low(510))},
		{mid, 610, quiet(low(510))}, // long enough, but what comes between tells nothing
		{mid, 900, quiet(low(510))},
		{0, 901, tells(510)},
		{mid, 902, quiet(fallen(510))},
		{0, 1200, quiet(fallen(510))},
		{mid, 1300, quiet(fallen(510))},
	})
}

// P20.1: a fall that is told, what is weightless behind it, what is between, one above the upper limit, and a second fall behind that.
func TestTwoFalls(t *testing.T) {
	checkRun(t, high, []part{
		{0, 1000, quiet(low(1000))},
		{100, 1050, quiet(low(1000))},
		{0, 1130, tells(1000)},
		{0, 1131, quiet(fallen(1000))},
		{2000000, 1500, quiet(fallen(1000))},
		{mid, 1510, quiet(fallen(1000))},
		{4000000, 1520, quiet(fallen(1000))},
		{0, 1530, quiet(fallen(1000))},
		{5 * g, 1540, quiet(high)},
		{g, 1550, quiet(high)},
		{mid, 1560, quiet(high)},
		{0, 2000, quiet(low(2000))},
		{0, 2099, quiet(low(2000))},
		{0, 2100, tells(2000)},
		{0, 2200, quiet(fallen(2000))},
		{g, 2201, quiet(high)},
	})
}

// P20.1: falls that are broken off, one behind the other, tell nothing, however long they are together.
func TestBrokenOff(t *testing.T) {
	f := high
	for i := range int64(100) {
		now := 100 * i
		f = checkRun(t, f, []part{
			{0, now, quiet(low(now))},
			{0, now + 98, quiet(low(now))},
			{upper + 1, now + 99, quiet(high)},
		})
	}
}

// P20.1: samples that come seldom: the second one that is weightless tells, however late it is.
func TestSeldom(t *testing.T) {
	for _, later := range []int64{100, 101, 1000, 1 << 31, 1 << 32, 1<<40 - 5} {
		checkRun(t, high, []part{
			{0, 5, quiet(low(5))},
			{0, 5 + later, tells(5)},
			{0, 5 + later, quiet(fallen(5))},
		})
	}
}

// P20.1: several at one time: the time decides, not how many they are.
func TestAtOnce(t *testing.T) {
	f := checkRun(t, high, []part{{0, 50, quiet(low(50))}})
	for range 200 {
		f = checkRun(t, f, []part{{0, 149, quiet(low(50))}})
	}
	checkRun(t, f, []part{{0, 150, tells(50)}, {g, 150, quiet(high)}, {0, 150, quiet(low(150))}})
}
