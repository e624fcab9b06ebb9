package tilt_test

import (
	"testing"

	"gimbal/api"
	"gimbal/tilt"
)

const (
	one   = 1 << 30
	two   = 1 << 31   // the greatest number of a vector here
	limit = 879557810 // 35 degrees
	clock = 1 << 40   // the last time
)

var (
	north = v3(0, one, 0)
	east  = v3(one, 0, 0)
	up    = v3(0, 0, one)
	below = v3(0, 0, -one)
)

// answer is what Take answers.
type answer struct {
	s    api.Tilt
	told bool
	e    api.Errno
}

func taken(t api.Tilt, u api.Vec, now int64) answer {
	s, told, e := tilt.Take(t, u, now)
	return answer{s, told, e}
}

func v3(x, y, z int64) api.Vec { return api.Vec{X: x, Y: y, Z: z} }

// leaning is a vector whose dot product with up is z.
func leaning(z int64) api.Vec { return v3(0, 0, z) }

func near(ref api.Vec) api.Tilt { return api.Tilt{On: true, Ref: ref} }
func away(ref api.Vec, since int64) api.Tilt {
	return api.Tilt{On: true, Ref: ref, Since: since, Away: true}
}

func quiet(s api.Tilt) answer  { return answer{s: s} }
func tells(ref api.Vec) answer { return answer{s: near(ref), told: true} }
func bad(e api.Errno) answer   { return answer{e: e} }

type row struct {
	name string
	t    api.Tilt
	u    api.Vec
	now  int64
	want answer
}

func check(t *testing.T, rows []row) {
	t.Helper()
	for _, r := range rows {
		if got := taken(r.t, r.u, r.now); got != r.want {
			t.Errorf("%s: Take(%+v, %v, %d): %+v, not %+v", r.name, r.t, r.u, r.now, got, r.want)
		}
		if got := wantTake(r.t, r.u, r.now); got != r.want {
			t.Errorf("%s: the test itself is at odds: %+v, not %+v", r.name, got, r.want)
		}
	}
}

// part is a vector that is taken at a time, and what is answered.
type part struct {
	u    api.Vec
	now  int64
	want answer
}

// checkRun takes one part behind the other, each with the state that the one ahead of it answered.
func checkRun(t *testing.T, s api.Tilt, parts []part) api.Tilt {
	t.Helper()
	for _, p := range parts {
		check(t, []row{{"in a run", s, p.u, p.now, p.want}})
		s = p.want.s
	}
	return s
}

// P19.1: the chapter's example.
func TestExample(t *testing.T) {
	checkRun(t, api.Tilt{}, []part{
		{up, 0, quiet(near(up))},
		{north, 1, quiet(away(up, 1))},
		{north, 2, quiet(away(up, 1))},
		{north, 2000, quiet(away(up, 1))},
		{north, 2001, tells(north)},
	})
	s := taken(api.Tilt{}, up, 5).s
	for now := int64(6); now <= 2006; now++ {
		got := taken(s, north, now)
		if got.told != (now == 2006) || got.e != api.OK {
			t.Fatalf("at %d: %+v", now, got)
		}
		s = got.s
	}
	if s != near(north) {
		t.Errorf("behind it: %+v", s)
	}
}

// P19.1: the first sample is held against nothing: it is Ref, whatever it is, and at whatever time.
func TestFirst(t *testing.T) {
	for _, u := range []api.Vec{{}, v3(1, -2, 3), up, below, north, leaning(limit - 1), v3(two, two, two), v3(-two, two, -two)} {
		for _, now := range []int64{0, 1, 5, 1999, 2000, 1 << 32, clock - 1, clock} {
			check(t, []row{{"the first", api.Tilt{}, u, now, quiet(near(u))}})
		}
	}
}

// P19.1: what stays near changes nothing, Ref neither.
func TestNear(t *testing.T) {
	checkRun(t, api.Tilt{}, []part{
		{up, 5, quiet(near(up))},
		{leaning(limit), 6, quiet(near(up))},
		{v3(500000000, 0, 950000000), 7, quiet(near(up))},
		{v3(-500000000, 300000000, 890000000), 4000, quiet(near(up))},
		{v3(two, -two, limit), 8000, quiet(near(up))},
		{up, 12000, quiet(near(up))},
	})
}

// P19.1: away for 2000 ticks, wherever it is meanwhile: told with the last sample, which is the next Ref.
func TestAway(t *testing.T) {
	checkRun(t, near(up), []part{
		{north, 100, quiet(away(up, 100))},
		{east, 500, quiet(away(up, 100))},
		{below, 1500, quiet(away(up, 100))},
		{v3(0, 900000000, 500000000), 2099, quiet(away(up, 100))},
		{v3(700000000, 700000000, 300000000), 2100, tells(v3(700000000, 700000000, 300000000))},
	})
	checkRun(t, near(up), []part{
		{north, 100, quiet(away(up, 100))},
		{east, 100000, tells(east)},
	})
}

// P19.1: away, and back ahead of the time: nothing is told, and the next time away is reckoned anew.
func TestBack(t *testing.T) {
	checkRun(t, near(up), []part{
		{north, 100, quiet(away(up, 100))},
		{north, 2099, quiet(away(up, 100))},
		{up, 2099, quiet(near(up))},
		{north, 2100, quiet(away(up, 2100))},
		{north, 4099, quiet(away(up, 2100))},
		{leaning(limit), 4100, quiet(near(up))},
		{leaning(limit - 1), 4100, quiet(away(up, 4100))},
		{leaning(limit - 1), 6100, tells(leaning(limit - 1))},
	})
	checkRun(t, near(up), []part{
		{north, 100, quiet(away(up, 100))},
		{up, 100000, quiet(near(up))}, // it was away for long, but it was not seen so
		{north, 100001, quiet(away(up, 100001))},
	})
}

// P19.1: one tilt behind another, each from where the last one left it.
func TestOneBehindAnother(t *testing.T) {
	checkRun(t, api.Tilt{}, []part{
		{up, 0, quiet(near(up))},
		{north, 10, quiet(away(up, 10))},
		{north, 2010, tells(north)},
		{north, 2011, quiet(near(north))},
		{north, 9000, quiet(near(north))},
		{up, 9001, quiet(away(north, 9001))},
		{up, 11001, tells(up)},
		{below, 11001, quiet(away(up, 11001))},
		{below, 13000, quiet(away(up, 11001))},
		{east, 13001, tells(east)},
		{below, 13002, quiet(away(east, 13002))},
		{east, 13003, quiet(near(east))},
	})
}

// P19.1: turned by degrees, it is told again and again: each tilt from where the last one was told.
func TestTurning(t *testing.T) {
	// The directions of 0, 40 and 80 degrees, and so on, in the plane of y and z.
	turns := []api.Vec{
		v3(0, 0, 1073741824), v3(0, 690187940, 822533958), v3(0, 1057429273, 186453311),
		v3(0, 929887697, -536870912), v3(0, 367241333, -1008987269), v3(0, -367241333, -1008987269),
	}
	s, now := taken(api.Tilt{}, turns[0], 0).s, int64(0)
	for i, u := range turns[1:] {
		s = checkRun(t, s, []part{
			{u, now + 1, quiet(away(turns[i], now+1))},
			{u, now + 2001, tells(u)},
		})
		now += 2001
	}
}

// P19.1: all at one time: now does not go back, but it may stand.
func TestAtOneTime(t *testing.T) {
	for _, now := range []int64{0, 1, 1999, 2000, clock - 1, clock} {
		checkRun(t, api.Tilt{}, []part{
			{up, now, quiet(near(up))},
			{north, now, quiet(away(up, now))},
			{north, now, quiet(away(up, now))},
			{up, now, quiet(near(up))},
			{below, now, quiet(away(up, now))},
		})
	}
}
