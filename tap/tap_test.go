package tap_test

import (
	"testing"

	"gimbal/api"
	"gimbal/tap"
)

const (
	g     = 9806650
	top   = 1<<api.Bits - 1 // the greatest word
	clock = 1 << 40         // the last time
)

// answer is what Take answers.
type answer struct {
	t    api.Tap
	kind int
	e    api.Errno
}

func taken(t api.Tap, v api.Vec, now int64) answer {
	u, kind, e := tap.Take(t, v, now)
	return answer{u, kind, e}
}

func v3(x, y, z int64) api.Vec { return api.Vec{X: x, Y: y, Z: z} }
func vx(x int64) api.Vec       { return v3(x, 0, 0) }

// resting is a state without a jerk, jerking one within a jerk.
func resting(last api.Vec, prev int64) api.Tap { return api.Tap{On: true, Last: last, Prev: prev} }
func jerking(last api.Vec, since, prev int64) api.Tap {
	return api.Tap{On: true, Last: last, Since: since, Prev: prev}
}

func quiet(t api.Tap) answer           { return answer{t: t} }
func tells(kind int, t api.Tap) answer { return answer{t: t, kind: kind} }
func bad(e api.Errno) answer           { return answer{e: e} }

type row struct {
	name string
	t    api.Tap
	v    api.Vec
	now  int64
	want answer
}

func check(t *testing.T, rows []row) {
	t.Helper()
	for _, r := range rows {
		if got := taken(r.t, r.v, r.now); got != r.want {
			t.Errorf("%s: Take(%+v, %v, %d): %+v, not %+v", r.name, r.t, r.v, r.now, got, r.want)
		}
		if got := wantTake(r.t, r.v, r.now); got != r.want {
			t.Errorf("%s: the test itself is at odds: %+v, not %+v", r.name, got, r.want)
		}
	}
}

// part is a vector that is taken at a time, and what is answered.
type part struct {
	v    api.Vec
	now  int64
	want answer
}

// checkRun takes one part behind the other, each with the state that the one ahead of it answered.
func checkRun(t *testing.T, s api.Tap, parts []part) api.Tap {
	t.Helper()
	for _, p := range parts {
		check(t, []row{{"in a run", s, p.v, p.now, p.want}})
		s = p.want.t
	}
	return s
}

// P18.1: the chapter's example.
func TestExample(t *testing.T) {
	checkRun(t, api.Tap{}, []part{
		{vx(0), 0, quiet(resting(vx(0), 0))},
		{vx(2 * g), 0, quiet(jerking(vx(2*g), 1, 0))},
		{vx(2 * g), 10, tells(1, resting(vx(2*g), 11))},
	})
}

// P18.1: the first sample is held against nothing, however great it is, and at whatever time.
func TestFirst(t *testing.T) {
	for _, v := range []api.Vec{v3(0, 0, 0), v3(1, -2, 3), v3(0, 0, g), v3(2*g, 0, 0), v3(top, top, top), v3(-top, top, -top), v3(0, 1<<44, 0)} {
		for _, now := range []int64{0, 1, 5, 1000, 1 << 32, clock - 1, clock} {
			check(t, []row{{"the first", api.Tap{}, v, now, quiet(resting(v, 0))}})
		}
	}
}

// P18.1: a single tap, along each axis, there and back, and across all of them.
func TestSingle(t *testing.T) {
	for _, v := range []api.Vec{vx(2 * g), vx(-2 * g), v3(0, 2*g, 0), v3(0, -2*g, 0), v3(0, 0, 2*g), v3(0, 0, -2*g), v3(g, g, g), v3(-g, g, -g), v3(g, 1-g, 1)} {
		base := v3(700, -800, g)
		struck := v3(base.X+v.X, base.Y+v.Y, base.Z+v.Z)
		checkRun(t, api.Tap{}, []part{
			{base, 100, quiet(resting(base, 0))},
			{base, 110, quiet(resting(base, 0))},
			{struck, 120, quiet(jerking(struck, 121, 0))},
			{base, 130, quiet(jerking(base, 121, 0))},
			{base, 140, tells(1, resting(base, 141))},
			{base, 150, quiet(resting(base, 141))},
		})
	}
}

// P18.1: all three numbers count: none of these is beyond Gravity by itself.
func TestAllNumbers(t *testing.T) {
	const most = 5661872 // three of it are just not beyond Gravity and a half
	check(t, []row{
		{"within", resting(v3(1, 2, 3), 0), v3(1+most, 2+most, 3+most), 9, quiet(resting(v3(1+most, 2+most, 3+most), 0))},
		{"beyond", resting(v3(1, 2, 3), 0), v3(2+most, 3+most, 4+most), 9, quiet(jerking(v3(2+most, 3+most, 4+most), 10, 0))},
		{"two of them", resting(v3(0, 5, 0), 0), v3(7*g/10, 5, -7*g/10), 9, quiet(resting(v3(7*g/10, 5, -7*g/10), 0))},
		{"two greater ones", resting(v3(0, 5, 0), 0), v3(8*g/10, 5, -8*g/10), 9, quiet(jerking(v3(8*g/10, 5, -8*g/10), 10, 0))},
	})
}

// P18.1: what is held against is the sample ahead, not the first one: also behind samples that tell nothing.
func TestAgainstTheOneAhead(t *testing.T) {
	checkRun(t, api.Tap{}, []part{
		{vx(0), 0, quiet(resting(vx(0), 0))},
		{vx(g), 1, quiet(resting(vx(g), 0))},
		{vx(2 * g), 2, quiet(resting(vx(2*g), 0))},
		{vx(0), 3, quiet(jerking(vx(0), 4, 0))},
		{vx(-2 * g), 4, quiet(jerking(vx(-2*g), 4, 0))},
		{vx(-g), 5, tells(1, resting(vx(-g), 6))},
		{vx(0), 6, quiet(resting(vx(0), 6))},
		{vx(g), 7, quiet(resting(vx(g), 6))},
		{vx(-g), 8, quiet(jerking(vx(-g), 9, 6))},
		{vx(-g), 9, tells(2, resting(vx(-g), 0))},
	})
}

// P18.1: two taps that are a double one.
func TestDouble(t *testing.T) {
	checkRun(t, api.Tap{}, []part{
		{vx(0), 0, quiet(resting(vx(0), 0))},
		{vx(2 * g), 100, quiet(jerking(vx(2*g), 101, 0))},
		{vx(2 * g), 110, tells(1, resting(vx(2*g), 111))},
		{vx(2 * g), 200, quiet(resting(vx(2*g), 111))},
		{vx(0), 250, quiet(jerking(vx(0), 251, 111))},
		{vx(0), 260, tells(2, resting(vx(0), 0))},
		{vx(0), 270, quiet(resting(vx(0), 0))},
	})
}

// P18.1: two that are too far apart are two single ones.
func TestApart(t *testing.T) {
	checkRun(t, api.Tap{}, []part{
		{vx(0), 0, quiet(resting(vx(0), 0))},
		{vx(2 * g), 100, quiet(jerking(vx(2*g), 101, 0))},
		{vx(2 * g), 110, tells(1, resting(vx(2*g), 111))},
		{vx(0), 405, quiet(jerking(vx(0), 406, 111))},
		{vx(0), 411, tells(1, resting(vx(0), 412))},
		{vx(2 * g), 700, quiet(jerking(vx(2*g), 701, 412))},
		{vx(2 * g), 711, tells(2, resting(vx(2*g), 0))},
	})
}

// P18.1: taps one behind the other, each soon behind the last one: every second one makes a double one.
func TestManyTaps(t *testing.T) {
	s := resting(vx(0), 0)
	for i, want := range []int{1, 2, 1, 2, 1, 2, 1, 2, 1} {
		now, v := int64(1000+100*i), vx(3*g-s.Last.X)
		end := tells(want, resting(v, 0))
		if want == 1 {
			end.t.Prev = now + 21
		}
		s = checkRun(t, s, []part{
			{v, now, quiet(jerking(v, now+1, s.Prev))},
			{v, now + 20, end},
		})
	}
}

// P18.1: a jerk that lasts too long is no tap, and leaves the tap ahead of it as it was.
func TestTooLong(t *testing.T) {
	checkRun(t, api.Tap{}, []part{
		{vx(0), 0, quiet(resting(vx(0), 0))},
		{vx(2 * g), 100, quiet(jerking(vx(2*g), 101, 0))},
		{vx(0), 130, quiet(jerking(vx(0), 101, 0))},
		{vx(2 * g), 160, quiet(jerking(vx(2*g), 101, 0))},
		{vx(2 * g), 161, quiet(resting(vx(2*g), 0))},
		{vx(0), 200, quiet(jerking(vx(0), 201, 0))},
		{vx(0), 210, tells(1, resting(vx(0), 211))},
		{vx(2 * g), 300, quiet(jerking(vx(2*g), 301, 211))},
		{vx(2 * g), 400, quiet(resting(vx(2*g), 211))},
		{vx(0), 490, quiet(jerking(vx(0), 491, 211))},
		{vx(0), 500, tells(2, resting(vx(0), 0))},
	})
	checkRun(t, resting(vx(0), 1), []part{
		{vx(2 * g), 100, quiet(jerking(vx(2*g), 101, 1))},
		{vx(2 * g), 100000, quiet(resting(vx(2*g), 1))},
		{vx(0), 100001, quiet(jerking(vx(0), 100002, 1))},
		{vx(0), 100002, tells(1, resting(vx(0), 100003))},
	})
}

// P18.1: all at one time: now does not go back, but it may stand.
func TestAtOneTime(t *testing.T) {
	for _, now := range []int64{0, 1, 77, clock - 1, clock} {
		checkRun(t, api.Tap{}, []part{
			{vx(0), now, quiet(resting(vx(0), 0))},
			{vx(2 * g), now, quiet(jerking(vx(2*g), now+1, 0))},
			{vx(0), now, quiet(jerking(vx(0), now+1, 0))},
			{vx(0), now, tells(1, resting(vx(0), now+1))},
			{vx(2 * g), now, quiet(jerking(vx(2*g), now+1, now+1))},
			{vx(2 * g), now, tells(2, resting(vx(2*g), 0))},
			{vx(0), now, quiet(jerking(vx(0), now+1, 0))},
			{vx(0), now, tells(1, resting(vx(0), now+1))},
		})
	}
}
