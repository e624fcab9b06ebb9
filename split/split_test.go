package split_test

import (
	"testing"

	"gimbal/api"
	"gimbal/fuse"
	"gimbal/quat"
	"gimbal/split"
	"gimbal/vec"
)

const (
	top     = 1<<api.Bits - 1 // the greatest word
	one     = api.One
	g       = api.Gravity
	quarter = 1 << 30 // of a turn
)

// answer is what Gravity and Linear answer.
type answer struct {
	v api.Vec
	e api.Errno
}

func of(v api.Vec, e api.Errno) answer { return answer{v, e} }

func f4(w, x, y, z int64) api.Fuse { return api.Fuse{Q: api.Quat{W: w, X: x, Y: y, Z: z}} }

func v3(x, y, z int64) api.Vec { return api.Vec{X: x, Y: y, Z: z} }

func good(x, y, z int64) answer { return answer{v: v3(x, y, z)} }
func bad(e api.Errno) answer    { return answer{e: e} }

// angle is what Heading answers.
type angle struct {
	a uint32
	e api.Errno
}

func numbers(v *api.Vec) []*int64 { return []*int64{&v.X, &v.Y, &v.Z} }

// placed is a with v as its number i.
func placed(a api.Vec, i int, v int64) api.Vec {
	*numbers(&a)[i] = v
	return a
}

func checkGravity(t *testing.T, name string, f api.Fuse, want answer) {
	t.Helper()
	if got := of(split.Gravity(f)); got != want {
		t.Errorf("%s: Gravity(%v): %v, not %v", name, f, got, want)
	}
	if got := wantGravity(f); got != want {
		t.Errorf("%s: Gravity(%v): the test itself is at odds: %v, not %v", name, f, got, want)
	}
}

func checkLinear(t *testing.T, name string, f api.Fuse, a api.Vec, want answer) {
	t.Helper()
	if got := of(split.Linear(f, a)); got != want {
		t.Errorf("%s: Linear(%v, %v): %v, not %v", name, f, a, got, want)
	}
	if got := wantLinear(f, a); got != want {
		t.Errorf("%s: Linear(%v, %v): the test itself is at odds: %v, not %v", name, f, a, got, want)
	}
}

func checkHeading(t *testing.T, name string, f api.Fuse, want angle) {
	t.Helper()
	if a, e := split.Heading(f); (angle{a, e}) != want {
		t.Errorf("%s: Heading(%v): %d, %v, not %v", name, f, a, e, want)
	}
	if got := wantHeading(f); got != want {
		t.Errorf("%s: Heading(%v): the test itself is at odds: %v, not %v", name, f, got, want)
	}
}

// checkAltitude goes both ways.
func checkAltitude(t *testing.T, name string, p, p0, want int64) {
	t.Helper()
	if h, e := split.Altitude(p, p0); h != want || e != api.OK {
		t.Errorf("%s: Altitude(%d, %d): %d, %v, not %d", name, p, p0, h, e, want)
	}
	if h, e := split.Altitude(p0, p); h != -want || e != api.OK {
		t.Errorf("%s: Altitude(%d, %d): %d, %v, not %d", name, p0, p, h, e, -want)
	}
	if !isAltitude(want, p, p0) {
		t.Errorf("%s: Altitude(%d, %d): the test itself is at odds: not %d", name, p, p0, want)
	}
}

// towards is the orientation of these numbers, made as long as One.
func towards(t *testing.T, w, x, y, z int64) api.Fuse {
	t.Helper()
	q, e := quat.Unit(api.Quat{W: w, X: x, Y: y, Z: z})
	if e != api.OK {
		t.Fatalf("no orientation: %v", e)
	}
	return api.Fuse{Q: q}
}

func opposite(f api.Fuse) api.Fuse { return f4(-f.Q.W, -f.Q.X, -f.Q.Y, -f.Q.Z) }

// pose is an orientation, and what it must show.
type pose struct {
	w, x, y, z int64
	gravity    api.Vec
	heading    angle
}

// poses are orientations about each axis and about several. Their numbers are reckoned by a script.
func poses() []pose {
	return []pose{
		{1, 0, 0, 0, v3(0, 0, g), angle{a: 0}},
		{0, 1, 0, 0, v3(0, 0, -g), angle{a: 2 * quarter}},
		{0, 0, 1, 0, v3(0, 0, -g), angle{a: 0}},
		{0, 0, 0, 1, v3(0, 0, g), angle{a: 2 * quarter}},
		{1, 1, 0, 0, v3(0, g, 0), angle{e: api.ErrZero}},
		{1, -1, 0, 0, v3(0, -g, 0), angle{e: api.ErrZero}},
		{1, 0, 1, 0, v3(-g, 0, 0), angle{a: 0}},
		{1, 0, -1, 0, v3(g, 0, 0), angle{a: 0}},
		{1, 0, 0, 1, v3(0, 0, g), angle{a: 3 * quarter}},
		{1, 0, 0, -1, v3(0, 0, g), angle{a: quarter}},
		{2, 1, 0, 0, v3(0, 7845320, 5883990), angle{a: 0}},
		{2, -1, 0, 0, v3(0, -7845320, 5883990), angle{a: 0}},
		{2, 0, 1, 0, v3(-7845320, 0, 5883990), angle{a: 0}},
		{2, 0, -1, 0, v3(7845320, 0, 5883990), angle{a: 0}},
		{2, 0, 0, 1, v3(0, 0, g), angle{a: 3661100484}},
		{2, 0, 0, -1, v3(0, 0, g), angle{a: 633866812}},
		{1, 1, 1, 1, v3(0, g, 0), angle{e: api.ErrZero}},
		{1, -1, 1, -1, v3(0, -g, 0), angle{e: api.ErrZero}},
		{3, 1, 0, 1, v3(1783027, 5349082, 8023623), angle{a: 3810574983}},
		{3, -1, 4, -2, v3(-6537767, -7191543, -1307553), angle{a: 134932752}},
		{-5, 3, -2, 7, v3(2479843, -6537767, 6875927), angle{a: 1390675230}},
		{100, 1, -2, 3, v3(397593, 184107, 9796857), angle{a: 4253705354}},
		{1, 100, -3, 2, v3(397593, 184107, -9796857), angle{a: 2188745590}},
	}
}

func someOrientations(t *testing.T) []api.Fuse {
	t.Helper()
	var list []api.Fuse
	for _, p := range poses() {
		f := towards(t, p.w, p.x, p.y, p.z)
		list = append(list, f, opposite(f))
	}
	return list
}

// longOnes are orientations that are not as long as One, and show the same as if they were.
func longOnes() []api.Fuse {
	return []api.Fuse{
		f4(one+4, 0, 0, 0), f4(one-4, 0, 0, 0), f4(0, one+4, 0, 0), f4(0, 0, 4-one, 0), f4(0, 0, 0, -one-4),
		f4(one/2+2, one/2+2, one/2+2, one/2+2), f4(one/2-2, one/2-2, 2-one/2, 2-one/2), f4(one/2+2, one/2+2, one/2+2, -one/2-2),
	}
}

// P16.1: what each pose shows as gravity.
func TestGravity(t *testing.T) {
	checkGravity(t, "fresh", fuse.Fresh(), good(0, 0, 9806650))
	for _, p := range poses() {
		f := towards(t, p.w, p.x, p.y, p.z)
		checkGravity(t, "pose", f, answer{v: p.gravity})
		checkGravity(t, "the same, by the opposite", opposite(f), answer{v: p.gravity})
	}
}

// P16.1: how long the orientation is does not count.
func TestGravityOfLongOnes(t *testing.T) {
	checkGravity(t, "the longest", f4(one+4, 0, 0, 0), good(0, 0, g))
	checkGravity(t, "the shortest", f4(one-4, 0, 0, 0), good(0, 0, g))
	checkGravity(t, "the longest upside down", f4(0, -one-4, 0, 0), good(0, 0, -g))
	checkGravity(t, "four halves, the longest", f4(one/2+2, one/2+2, one/2+2, one/2+2), good(0, g, 0))
	checkGravity(t, "four halves, the shortest", f4(one/2-2, one/2-2, one/2-2, 2-one/2), good(-g, 0, 0))
	for _, f := range longOnes() {
		checkGravity(t, "long", f, wantGravity(f))
		checkHeading(t, "long", f, wantHeading(f))
	}
}

// P16.1: gravity is as long as Gravity, wherever it points to, but for rounding.
func TestGravityIsAsLong(t *testing.T) {
	for _, f := range someOrientations(t) {
		v, _ := split.Gravity(f)
		if n, e := vec.Norm(v); e != api.OK || n < g-1 || n > g+1 {
			t.Errorf("Gravity(%v): %v, %d long", f, v, n)
		}
	}
}

// P16.1: a sample less gravity.
func TestLinear(t *testing.T) {
	checkLinear(t, "at rest", fuse.Fresh(), v3(0, 0, g), good(0, 0, 0))
	checkLinear(t, "nearly at rest", fuse.Fresh(), v3(1, -2, g+3), good(1, -2, 3))
	checkLinear(t, "falling", fuse.Fresh(), v3(0, 0, 0), good(0, 0, -g))
	checkLinear(t, "upside down", fuse.Fresh(), v3(0, 0, -g), good(0, 0, -2*g))
	checkLinear(t, "any", towards(t, 3, -1, 4, -2), v3(1000000, 2000000, -3000000), good(7537767, 9191543, -1692447))
	checkLinear(t, "about x", towards(t, 2, 1, 0, 0), v3(5, 8000000, 6000000), good(5, 154680, 116010))
	for _, p := range poses() {
		f := towards(t, p.w, p.x, p.y, p.z)
		checkLinear(t, "at rest", f, p.gravity, good(0, 0, 0))
		checkLinear(t, "at rest, by the opposite", opposite(f), p.gravity, good(0, 0, 0))
		checkLinear(t, "falling", f, api.Vec{}, good(-p.gravity.X, -p.gravity.Y, -p.gravity.Z))
	}
}

// P16.1: where each pose is headed.
func TestHeading(t *testing.T) {
	checkHeading(t, "fresh", fuse.Fresh(), angle{a: 0})
	for _, p := range poses() {
		f := towards(t, p.w, p.x, p.y, p.z)
		checkHeading(t, "pose", f, p.heading)
		checkHeading(t, "the same, by the opposite", opposite(f), p.heading)
	}
}

// P16.1: spun clockwise, as it is seen from above, a device is headed from north towards east, and so on all around.
func TestHeadingAllAround(t *testing.T) {
	const steps = 720
	f, last := fuse.Fresh(), uint32(0)
	for i := range steps {
		var e api.Errno
		f, e = fuse.Spin(f, v3(0, 0, -9370000), 1) // about 2 pi 2^30 / 720
		if e != api.OK {
			t.Fatal(e)
		}
		want := wantHeading(f)
		checkHeading(t, "around", f, want)
		checkHeading(t, "around, by the opposite", opposite(f), want)
		if on := want.a - last; on < 1<<32/steps*99/100 || on > 1<<32/steps*101/100 {
			t.Errorf("step %d: from %d to %d", i, last, want.a)
		}
		last = want.a
	}
}

// P16.1: how a device leans about its own y does not count.
func TestHeadingOfLeaning(t *testing.T) {
	for _, turn := range []api.Fuse{towards(t, 2, 0, 0, -1), towards(t, -5, 0, 0, 3), towards(t, 1, 0, 0, 7)} {
		straight, _ := split.Heading(turn)
		for _, lean := range []api.Fuse{towards(t, 9, 0, 1, 0), towards(t, 1, 0, 1, 0), towards(t, 0, 0, 1, 0), towards(t, 2, 0, -3, 0)} {
			q, _ := quat.Mul(turn.Q, lean.Q)
			q, _ = quat.Unit(q)
			a, e := split.Heading(api.Fuse{Q: q})
			if off := int32(a - straight); e != api.OK || off < -16 || off > 16 {
				t.Errorf("%v leaning by %v: %d, %v, not %d", turn, lean, a, e, straight)
			}
		}
	}
}

// P16.2: the example, pressures of the air, some far from each other, some near. Their numbers are reckoned by a script.
func TestAltitude(t *testing.T) {
	for _, c := range []struct{ p, p0, want int64 }{
		{100, 200, 5846350},
		{101325, 101325, 0},
		{101324, 101325, 83},
		{101325, 101326, 83},
		{101300, 101325, 2081},
		{100000, 101325, 111023},
		{89874, 101325, 1011503},
		{54019, 101325, 5305278},
		{26436, 101325, 11332649},
		{611, 101325, 43108658},
		{105000, 101325, -300497},
		{1, 101325, 97216793},
		{1, 2, 5846350},
		{1, 3, 9266245},
		{2, 3, 3419895},
		{3, 4, 2426454},
		{1, 10, 19421154},
		{7, 1000, 41850683},
		{99999, 100000, 84},
		{1000000, 2718282, 8434501},
		{100000, 271828, 8434494},
		{8434500, 8434501, 1},
		{25939199, 25939200, 0},
	} {
		checkAltitude(t, "pressures", c.p, c.p0, c.want)
	}
}
