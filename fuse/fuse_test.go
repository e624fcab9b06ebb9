package fuse_test

import (
	"math"
	"math/big"
	"testing"

	"gimbal/api"
	"gimbal/fuse"
	"gimbal/quat"
	"gimbal/vec"
)

const (
	top  = 1<<api.Bits - 1 // the greatest word
	one  = api.One
	g    = api.Gravity
	last = api.MaxTicks
)

// answer is what Spin, Up and North answer.
type answer struct {
	f api.Fuse
	e api.Errno
}

func of(f api.Fuse, e api.Errno) answer { return answer{f, e} }

func f4(w, x, y, z int64) api.Fuse { return api.Fuse{Q: api.Quat{W: w, X: x, Y: y, Z: z}} }

func v3(x, y, z int64) api.Vec { return api.Vec{X: x, Y: y, Z: z} }

func good(w, x, y, z int64) answer { return answer{f: f4(w, x, y, z)} }
func stays(f api.Fuse) answer      { return answer{f: f} }
func bad(e api.Errno) answer       { return answer{e: e} }

func numbers(v *api.Vec) []*int64 { return []*int64{&v.X, &v.Y, &v.Z} }

func quatNumbers(q *api.Quat) []*int64 { return []*int64{&q.W, &q.X, &q.Y, &q.Z} }

// placed is a with v as its number i.
func placed(a api.Vec, i int, v int64) api.Vec {
	*numbers(&a)[i] = v
	return a
}

// put is f with v as its number i.
func put(f api.Fuse, i int, v int64) api.Fuse {
	*quatNumbers(&f.Q)[i] = v
	return f
}

func checkSpin(t *testing.T, name string, f api.Fuse, w api.Vec, n int, want answer) {
	t.Helper()
	if got := of(fuse.Spin(f, w, n)); got != want {
		t.Errorf("%s: Spin(%v, %v, %d): %v, not %v", name, f, w, n, got, want)
	}
	if got := wantSpin(f, w, n); got != want {
		t.Errorf("%s: Spin(%v, %v, %d): the test itself is at odds: %v, not %v", name, f, w, n, got, want)
	}
}

func checkUp(t *testing.T, name string, f api.Fuse, a api.Vec, want answer) {
	t.Helper()
	if got := of(fuse.Up(f, a)); got != want {
		t.Errorf("%s: Up(%v, %v): %v, not %v", name, f, a, got, want)
	}
	if got := wantUp(f, a); got != want {
		t.Errorf("%s: Up(%v, %v): the test itself is at odds: %v, not %v", name, f, a, got, want)
	}
}

func checkNorth(t *testing.T, name string, f api.Fuse, m api.Vec, want answer) {
	t.Helper()
	if got := of(fuse.North(f, m)); got != want {
		t.Errorf("%s: North(%v, %v): %v, not %v", name, f, m, got, want)
	}
	if got := wantNorth(f, m); got != want {
		t.Errorf("%s: North(%v, %v): the test itself is at odds: %v, not %v", name, f, m, got, want)
	}
}

// towards is the orientation of these numbers, made as long as One.
func towards(t *testing.T, w, x, y, z int64) api.Fuse {
	t.Helper()
	q, e := quat.Unit(api.Quat{W: w, X: x, Y: y, Z: z})
	if e != api.OK {
		t.Fatalf("no orientation: %v", e)
	}
	return api.Fuse{Q: q}
}

// someOrientations are from all sides.
func someOrientations(t *testing.T) []api.Fuse {
	t.Helper()
	list := []api.Fuse{fuse.Fresh()}
	for _, q := range [][4]int64{
		{-1, 0, 0, 0}, {0, 1, 0, 0}, {0, 0, -1, 0}, {0, 0, 0, 1},
		{1, 1, 0, 0}, {1, -1, 0, 0}, {1, 0, 1, 0}, {1, 0, -1, 0}, {1, 0, 0, 1}, {-1, 0, 0, 1},
		{1, 1, 1, 1}, {1, -1, 1, -1}, {3, -1, 4, -2}, {-5, 3, -2, 7}, {100, 1, -2, 3}, {1, 100, -3, 2},
	} {
		list = append(list, towards(t, q[0], q[1], q[2], q[3]))
	}
	return list
}

func away(a, b int64) int64 { return max(a-b, b-a) }

// farthest is by how much two orientations differ in the number in which they differ most.
func farthest(f, h api.Fuse) int64 {
	most := int64(0)
	for i, v := range quatNumbers(&f.Q) {
		most = max(most, away(*v, *quatNumbers(&h.Q)[i]))
	}
	return most
}

// P15.1: Fresh is (One, 0, 0, 0), each time anew, and it is an orientation.
func TestFresh(t *testing.T) {
	f := fuse.Fresh()
	if f != f4(one, 0, 0, 0) || fuse.Check(f) != api.OK {
		t.Errorf("Fresh: %v", f)
	}
	f.Q.W = 0
	if f := fuse.Fresh(); f != f4(one, 0, 0, 0) {
		t.Errorf("Fresh again: %v", f)
	}
}

// P15.1: orientations from all sides.
func TestCheck(t *testing.T) {
	for _, f := range someOrientations(t) {
		if e := fuse.Check(f); e != api.OK {
			t.Errorf("Check(%v): %v", f, e)
		}
	}
	for _, f := range []api.Fuse{
		{}, f4(1, 0, 0, 0), f4(one/2, 0, 0, 0), f4(2*one, 0, 0, 0), f4(one, one, 0, 0), f4(one, one/2, 0, 0),
		f4(one/2, one/2, one/2, 0), f4(one, one, one, one), f4(0, 0, 0, one/2), f4(one-1000, 0, 0, 0), f4(one, 0, 0, 1<<20),
	} {
		if e := fuse.Check(f); e != api.ErrForm {
			t.Errorf("Check(%v): %v", f, e)
		}
	}
	if e := fuse.Check(f4(one/2, -one/2, one/2, -one/2)); e != api.OK {
		t.Errorf("Check of four halves: %v", e)
	}
}

// P15.2: from the fresh one about each axis, both ways round, and about all at once.
func TestSpinAboutAxes(t *testing.T) {
	for i := range 3 {
		for _, sign := range []int64{1, -1} {
			for _, c := range []struct {
				w       int64
				n       int
				w0, add int64
			}{
				{one, 1, 960383883, 480191942}, // One over the root of 1 and a quarter
				{1 << 20, 512, 1041682578, 260420644},
				{1 << 28, 1, 1065450257, 133181282},
				{1 << 21, 512, 960383883, 480191942},
				{1000, 1, one, 500},
				{10, 100, one, 500},
				{1 << 10, 1000, 1073741702, 512000},
			} {
				want := put(f4(c.w0, 0, 0, 0), i+1, sign*c.add)
				checkSpin(t, "about an axis", fuse.Fresh(), placed(api.Vec{}, i, sign*c.w), c.n, stays(want))
			}
		}
	}
	checkSpin(t, "about all", fuse.Fresh(), v3(one, -one, one), 1, good(811672525, 405836263, -405836263, 405836263))
	checkSpin(t, "from any", f4(588112618, -196037539, 784150157, -392075079), v3(123456789, -98765432, 55555555), 2, good(694657477, -122427408, 686802894, -428585825))
}

// P15.2: one behind the other.
func TestSpinsInARow(t *testing.T) {
	f := fuse.Fresh()
	for _, c := range []struct {
		w    api.Vec
		n    int
		want answer
	}{
		{v3(1<<28, 0, 0), 1, good(1065450257, 133181282, 0, 0)},
		{v3(0, 1<<20, 0), 300, good(1054199950, 131774994, 154423821, 19302978)},
		{v3(0, 0, -1000000), 1000, good(963814587, 54270268, 195617237, -427517931)},
		{v3(3000000, -4000000, 5000000), 77, good(1030085702, 127660375, 1615591, -274854816)},
	} {
		checkSpin(t, "in a row", f, c.w, c.n, c.want)
		f = c.want.f
	}
}

// P15.2: there and back: both together lengthen alone, and the length is taken away again.
func TestSpinAndBack(t *testing.T) {
	for _, f := range someOrientations(t) {
		for _, w := range []api.Vec{v3(one, 0, 0), v3(0, -one, 0), v3(0, 0, one), v3(one/2, -one/3, one), v3(1000, 2000, -3000), v3(1, 0, -1)} {
			there, e := fuse.Spin(f, w, 1)
			back, e2 := fuse.Spin(there, v3(-w.X, -w.Y, -w.Z), 1)
			if e != api.OK || e2 != api.OK || farthest(back, f) > 3 {
				t.Errorf("%v by %v: %v, %v; back: %v, %v", f, w, there, e, back, e2)
			}
			if w.X > 1 && farthest(there, f) < 100 {
				t.Errorf("%v by %v: %v", f, w, there)
			}
		}
	}
}

// P15.2: n ticks at once are a rate n times as great.
func TestTicksAtOnce(t *testing.T) {
	for _, f := range someOrientations(t) {
		for _, n := range []int{0, 1, 2, 7, 100, 999, last} {
			w := v3(12345, -1000000, 777777)
			k := int64(n)
			checkSpin(t, "at once", f, w, n, of(fuse.Spin(f, v3(k*w.X, k*w.Y, k*w.Z), 1)))
		}
	}
}

// P15.2: a quarter of a turn about each axis, tick by tick: the next axis is turned to the one behind it.
func TestQuarterTurns(t *testing.T) {
	quarter := int64(math.Round(math.Pi / 2000 * one))
	for i := range 3 {
		for _, sign := range []int64{1, -1} {
			f := fuse.Fresh()
			for range 1000 {
				f, _ = fuse.Spin(f, placed(api.Vec{}, i, sign*quarter), 1)
			}
			h, e := quat.Turn(f.Q, placed(api.Vec{}, (i+1)%3, one))
			want := placed(api.Vec{}, (i+2)%3, sign*one)
			difference, _ := vec.Sub(h, want)
			if n, _ := vec.Norm(difference); e != api.OK || n > 2000 {
				t.Errorf("about axis %d: %v, not %v", i, h, want)
			}
		}
	}
}

// P15.3: from the fresh one, by gravity from all sides.
func TestUp(t *testing.T) {
	f := fuse.Fresh()
	const far, add = 1073709057, 8388352 // by 1/128, as long as One
	for _, c := range []struct {
		a    api.Vec
		want answer
	}{
		{v3(0, 0, g), stays(f)},
		{v3(0, 0, -g), stays(f)}, // across is 0, as it is straight up
		{v3(g, 0, 0), good(far, 0, -add, 0)},
		{v3(-g, 0, 0), good(far, 0, add, 0)},
		{v3(0, g, 0), good(far, add, 0, 0)},
		{v3(0, -g, 0), good(far, -add, 0, 0)},
		{v3(0, 6000000, 8000000), good(1073730028, 5033110, 0, 0)},
		{v3(6000000, 0, -8000000), good(1073730028, 0, -5033110, 0)},
		{v3(1000000, -2000000, 9500000), good(1073740104, -1719043, -859522, 0)},
	} {
		checkUp(t, "fresh", f, c.a, c.want)
	}
	side := f4(759250125, 759250125, 0, 0)
	checkUp(t, "on its side, by z", side, v3(0, 0, g), good(765158417, 753295495, 0, 0))
	checkUp(t, "on its side, by x", side, v3(g, 0, 0), good(759226956, 759226956, -5931461, 5931461))
	checkUp(t, "on its side, by y", side, v3(0, g, 0), stays(side))
	checkUp(t, "on its side, by -y", side, v3(0, -g, 0), stays(side))
	checkUp(t, "any", f4(588112618, -196037539, 784150157, -392075079), v3(3000000, -4000000, 8000000), good(590757023, -197676587, 778855649, -397788248))
}

// P15.3: what is measured counts by its direction, not by its length within the gate.
func TestUpByDirection(t *testing.T) {
	for _, f := range someOrientations(t) {
		for _, a := range []api.Vec{v3(3, 0, 0), v3(0, -3, 0), v3(1, 2, -2), v3(-2, 1, 2)} {
			near, far := int64(3000000), int64(3500000)
			checkUp(t, "of other lengths", f, v3(near*a.X, near*a.Y, near*a.Z), of(fuse.Up(f, v3(far*a.X, far*a.Y, far*a.Z))))
		}
	}
}

// P15.4: from the fresh one, by fields from all sides: only the level part counts.
func TestNorth(t *testing.T) {
	f := fuse.Fresh()
	const far, add = 1073709057, 8388352
	for _, z := range []int64{0, 1, -9, 1 << 40} {
		for _, k := range []int64{1, 2, 1000, 1 << 40} {
			for _, c := range []struct {
				x, y int64
				want answer
			}{
				{5, 0, good(far, 0, 0, add)},
				{-5, 0, good(far, 0, 0, -add)},
				{0, 7, stays(f)},
				{0, -7, stays(f)}, // straight south: nothing is to the side
				{3, 4, good(1073730028, 0, 0, 5033110)},
				{-3, 4, good(1073730028, 0, 0, -5033110)},
				{3, -4, good(1073730028, 0, 0, 5033110)},
				{-3, -4, good(1073730028, 0, 0, -5033110)},
				{1, 1, good(1073725440, 0, 0, 5931551)},
			} {
				checkNorth(t, "fresh", f, v3(k*c.x, k*c.y, z), c.want)
			}
		}
	}
	checkNorth(t, "any", f4(588112618, -196037539, 784150157, -392075079), v3(100, -200, 300), good(589917720, -199658204, 783236099, -389353827))
}

// P15.4: from all sides, again and again, the field comes to lie between z and north.
func TestNorthAgainAndAgain(t *testing.T) {
	for _, f := range someOrientations(t) {
		for _, m := range []api.Vec{v3(100, -200, 300), v3(-300, 50, 10), v3(1<<40, 1<<39, -1<<40)} {
			for i := range 1500 {
				h, e := fuse.North(f, m)
				if e != api.OK || i%50 == 0 && of(h, e) != wantNorth(f, m) {
					t.Fatalf("North(%v, %v): %v, %v", f, m, h, e)
				}
				if h == f {
					break
				}
				f = h
			}
			h, _ := quat.Turn(f.Q, m)
			n, _ := vec.Norm(m)
			if away(h.X, 0) > 2+n>>22 || h.Y <= 0 {
				t.Errorf("by %v: %v", m, h)
			}
		}
	}
}

// P15.4: what is shown as up stays: it is turned about the world's z.
func TestNorthKeepsUp(t *testing.T) {
	for _, f := range someOrientations(t) {
		for _, m := range []api.Vec{v3(100, -200, 300), v3(-300, 50, 10), v3(0, 1, 0), v3(1, 0, 0)} {
			h, e := fuse.North(f, m)
			difference, _ := vec.Sub(shown(h), shown(f))
			if n, _ := vec.Norm(difference); e != api.OK || n > 8 {
				t.Errorf("North(%v, %v): %v, %v", f, m, h, e)
			}
		}
	}
}

// threeSquares are numbers whose squares are together n, the first one as great as may be.
func threeSquares(t *testing.T, n int64) api.Vec {
	t.Helper()
	root := func(v int64) int64 { return new(big.Int).Sqrt(num(v)).Int64() }
	for x := root(n); x > 0; x-- {
		rest := n - x*x
		for y := root(rest); 2*y*y >= rest; y-- {
			if z := root(rest - y*y); z*z == rest-y*y {
				return v3(x, y, z)
			}
		}
	}
	t.Fatalf("%d is no sum of three squares", n)
	return api.Vec{}
}
