package fuse_test

import (
	"testing"

	"gimbal/api"
	"gimbal/fuse"
)

// arranged is f in all the ways in which its numbers can be moved on, with both signs.
func arranged(f api.Fuse) []api.Fuse {
	var list []api.Fuse
	q := f.Q
	for range 4 {
		q = api.Quat{W: q.Z, X: q.W, Y: q.X, Z: q.Y}
		list = append(list, api.Fuse{Q: q}, f4(-q.W, -q.X, -q.Y, -q.Z), f4(-q.W, q.X, -q.Y, q.Z))
	}
	return list
}

// P15.1: squares that are together just (2^30 - 4)^2 and (2^30 + 4)^2, and one beside each.
func TestEndsOfOrientations(t *testing.T) {
	below := threeSquares(t, 2*one-10) // with (2^30 - 5)^2: one below (2^30 - 4)^2
	above := threeSquares(t, 2*one+6)  // with (2^30 + 3)^2: one below (2^30 + 4)^2
	for _, c := range []struct {
		name string
		f    api.Fuse
		want api.Errno
	}{
		{"just the least", f4(one-4, 0, 0, 0), api.OK},
		{"one above the least", f4(one-4, 1, 0, 0), api.OK},
		{"one below the least", f4(one-5, below.X, below.Y, below.Z), api.ErrForm},
		{"just the greatest", f4(one+4, 0, 0, 0), api.OK},
		{"one above the greatest", f4(one+4, 0, 1, 0), api.ErrForm},
		{"one below the greatest", f4(one+3, above.X, above.Y, above.Z), api.OK},
		{"a number too short", f4(one-5, 0, 0, 0), api.ErrForm},
		{"a number too long", f4(one+5, 0, 0, 0), api.ErrForm},
		{"four halves, the least", f4(one/2-2, one/2-2, one/2-2, one/2-2), api.OK},
		{"four halves, below the least", f4(one/2-2, one/2-2, one/2-2, one/2-3), api.ErrForm},
		{"four halves, the greatest", f4(one/2+2, one/2+2, one/2+2, one/2+2), api.OK},
		{"four halves, above the greatest", f4(one/2+2, one/2+2, one/2+3, one/2+2), api.ErrForm},
		{"all of the greatest number", f4(one+4, one+4, one+4, one+4), api.ErrForm},
	} {
		for _, f := range arranged(c.f) {
			if e := fuse.Check(f); e != c.want || (e == api.OK) != isOne(longQuat(f.Q)) {
				t.Errorf("%s: Check(%v): %v, not %v", c.name, f, e, c.want)
			}
			for name, got := range steps(f) {
				if got.e != c.want || c.want != api.OK && got.f != (api.Fuse{}) {
					t.Errorf("%s: %s from %v: %v, not %v", c.name, name, f, got, c.want)
				}
			}
		}
	}
}

// steps are right ones from f.
func steps(f api.Fuse) map[string]answer {
	return map[string]answer{
		"Spin":                 of(fuse.Spin(f, v3(1, -2, 3), 4)),
		"Spin by nothing":      of(fuse.Spin(f, api.Vec{}, 0)),
		"Up":                   of(fuse.Up(f, v3(g, 0, 0))),
		"Up by nothing":        of(fuse.Up(f, api.Vec{})),
		"Up beyond the gate":   of(fuse.Up(f, v3(0, 2*g, 0))),
		"North":                of(fuse.North(f, v3(1, 2, 3))),
		"North by nothing":     of(fuse.North(f, api.Vec{})),
		"North, straight up":   of(fuse.North(f, v3(0, 0, 9))),
		"North, straight down": of(fuse.North(f, v3(0, 0, -9))),
	}
}

// longOnes are orientations that are not as long as One: a step that is taken shortens or lengthens them, one that is not leaves them.
func longOnes() []api.Fuse {
	list := arranged(f4(one+4, 0, 0, 0))
	list = append(list, arranged(f4(one-4, 0, 0, 0))...)
	return append(list, arranged(f4(one/2+2, one/2+2, one/2+2, one/2+2))...)
}

// P15.2: n at 0 and at MaxTicks. Of no ticks, and by no rate, the length is made One all the same.
func TestEndsOfTicks(t *testing.T) {
	for _, f := range append(someOrientations(t), longOnes()...) {
		still := wantSpin(f, api.Vec{}, 1)
		checkSpin(t, "no ticks", f, v3(5, 6, 7), 0, still)
		checkSpin(t, "no ticks of the greatest rate", f, v3(top, -top, top), 0, still)
		checkSpin(t, "no rate", f, api.Vec{}, last, still)
		checkSpin(t, "one more than the greatest", f, v3(5, 6, 7), last+1, bad(api.ErrForm))
		checkSpin(t, "one less than none", f, v3(5, 6, 7), -1, bad(api.ErrForm))
	}
	checkSpin(t, "nothing", fuse.Fresh(), v3(5, 6, 7), 0, stays(fuse.Fresh()))
	checkSpin(t, "shortened", f4(one+4, 0, 0, 0), v3(5, 6, 7), 0, good(one, 0, 0, 0))
	checkSpin(t, "lengthened", f4(0, 0, 4-one, 0), api.Vec{}, last, good(0, 0, -one, 0))
	checkSpin(t, "four halves", f4(one/2+2, -one/2-2, one/2+2, one/2+2), api.Vec{}, 1, good(one/2, -one/2, one/2, one/2))
	checkSpin(t, "the most ticks", fuse.Fresh(), v3(2, -4, 6), last, good(one, 1000, -2000, 3000))
	checkSpin(t, "one less than the most", fuse.Fresh(), v3(2, -4, 6), last-1, good(one, 999, -1998, 2997))
}

// P15.2: a number of w that is, n times, just 2^30, and one above, of both signs, in each number.
func TestEndsOfSpins(t *testing.T) {
	for i := range 3 {
		for _, sign := range []int64{1, -1} {
			end := put(f4(960383883, 0, 0, 0), i+1, sign*480191942)
			for _, n := range []int{1, 2, 64, 512} {
				w := placed(api.Vec{}, i, sign*one/int64(n))
				checkSpin(t, "just 2^30", fuse.Fresh(), w, n, stays(end))
				*numbers(&w)[i] += sign
				checkSpin(t, "one more a tick", fuse.Fresh(), w, n, bad(api.ErrRange))
			}
			for _, n := range []int{1, 5, 13, 25, 41, 61, 325, 793} { // all of them go into 2^30 + 1
				w := placed(v3(1, 2, 3), i, sign*(one+1)/int64(n))
				checkSpin(t, "one above 2^30", fuse.Fresh(), w, n, bad(api.ErrRange))
				*numbers(&w)[i] -= sign
				checkSpin(t, "one less a tick", fuse.Fresh(), w, n, wantSpin(fuse.Fresh(), w, n))
			}
			for _, v := range []int64{one + 1, 1 << 31, 1 << 32, 1 << 40, top} {
				w := placed(api.Vec{}, i, sign*v)
				checkSpin(t, "far above", fuse.Fresh(), w, 1, bad(api.ErrRange))
				checkSpin(t, "far above, the most ticks", fuse.Fresh(), w, last, bad(api.ErrRange))
				checkSpin(t, "far above, no ticks", fuse.Fresh(), w, 0, stays(fuse.Fresh()))
			}
			checkSpin(t, "the most ticks", fuse.Fresh(), placed(api.Vec{}, i, sign*1073741), last, wantSpin(fuse.Fresh(), placed(api.Vec{}, i, sign*1073741), last))
			checkSpin(t, "the most ticks, beyond", fuse.Fresh(), placed(api.Vec{}, i, sign*1073742), last, bad(api.ErrRange))
		}
	}
	for _, f := range append(someOrientations(t), longOnes()...) {
		for _, w := range []api.Vec{v3(one, one, one), v3(-one, one, -one), v3(-one, -one, -one), v3(one, -one, 0)} {
			if want := wantSpin(f, w, 1); want.e != api.OK {
				t.Errorf("Spin(%v, %v, 1): %v", f, w, want)
			} else {
				checkSpin(t, "all of them at the end", f, w, 1, want)
			}
		}
	}
}

// P15.3: lengths at the ends of the gate and beside them, along each axis.
func TestGate(t *testing.T) {
	const low, high = 8580819, 11032481 // Gravity less and more an eighth, which is 1225831
	for _, f := range append(someOrientations(t), longOnes()...) {
		for i := range 3 {
			for _, sign := range []int64{1, -1} {
				for _, n := range []int64{low, low + 1, g, high - 1, high} {
					a := placed(api.Vec{}, i, sign*n)
					checkUp(t, "within", f, a, of(fuse.Up(f, placed(api.Vec{}, i, sign*g))))
				}
				for _, n := range []int64{0, 1, low / 2, low - 2, low - 1, high + 1, high + 2, 2 * g, 1 << 30, top} {
					checkUp(t, "beyond", f, placed(api.Vec{}, i, sign*n), stays(f))
				}
			}
		}
	}
	checkUp(t, "the least", fuse.Fresh(), v3(low, 0, 0), good(1073709057, 0, -8388352, 0))
	checkUp(t, "the greatest", fuse.Fresh(), v3(0, -high, 0), good(1073709057, -8388352, 0, 0))
}

// P15.3: the length is rounded ahead of the gate: n and n + 1/2 are n, what is above n + 1/2 is n + 1. No root of a whole number is just n + 1/2: its square is n^2 + n + 1/4.
func TestGateOfRoundedLengths(t *testing.T) {
	for _, c := range []struct {
		name   string
		n, add int64
		within bool
	}{
		{"rounded down, below", 8580818, 8580818, false},
		{"rounded up, within", 8580818, 8580820, true}, // one less is no sum of three squares
		{"rounded down, within", 11032481, 11032481, true},
		{"rounded up, above", 11032481, 11032482, false},
	} {
		a := threeSquares(t, c.n*c.n+c.add)
		for range 3 {
			a = v3(a.Z, -a.X, a.Y)
			for _, f := range []api.Fuse{fuse.Fresh(), f4(one+4, 0, 0, 0), f4(0, 0, one-4, 0)} {
				want := stays(f)
				if got := of(fuse.Up(f, a)); (got != want) != c.within {
					t.Errorf("%s: Up(%v, %v): %v", c.name, f, a, got)
				}
				checkUp(t, c.name, f, a, wantUp(f, a))
			}
		}
	}
}

// P15.3: noughts, and vectors whose length is no word: f stays, and is no longer and no shorter than it was.
func TestNoGravity(t *testing.T) {
	for _, f := range append(someOrientations(t), longOnes()...) {
		checkUp(t, "noughts", f, api.Vec{}, stays(f))
		for _, a := range []api.Vec{v3(top, top, top), v3(-top, top, 0), v3(0, -top, -top), v3(1<<44, top, 0), v3(top, 1<<24, 0), v3(top, 0, 1<<23)} {
			checkUp(t, "no length", f, a, stays(f))
		}
	}
}

// P15.3: one that is straight up, or straight down, has nothing to be corrected but its length.
func TestNothingOff(t *testing.T) {
	for _, a := range []api.Vec{v3(0, 0, g), v3(0, 0, -g)} {
		checkUp(t, "shortened", f4(one+4, 0, 0, 0), a, good(one, 0, 0, 0))
		checkUp(t, "lengthened", f4(0, 0, 0, one-4), a, good(0, 0, 0, one))
		checkUp(t, "upside down", f4(0, one+2, 0, 0), a, good(0, one, 0, 0))
	}
}

// P15.4: a field that is straight up behind the turn: f stays, as long as it was. Beside it the length is made One.
func TestFieldStraightUp(t *testing.T) {
	for _, f := range append(someOrientations(t), longOnes()...) {
		checkNorth(t, "nothing", f, api.Vec{}, stays(f))
	}
	upright := []api.Fuse{fuse.Fresh(), f4(one+4, 0, 0, 0), f4(one-4, 0, 0, 0), f4(0, 0, 0, one+4), f4(0, one-4, 0, 0), f4(0, 0, -one-4, 0), towards(t, 3, 0, 0, 4), towards(t, 0, 3, -4, 0)}
	for _, f := range upright {
		for _, z := range []int64{1, -1, 9, -9, 1 << 30, top, -top} {
			checkNorth(t, "straight up", f, v3(0, 0, z), stays(f))
		}
	}
	for i, axis := range []api.Fuse{f4(one/2+2, one/2+2, one/2+2, one/2+2), f4(one/2+2, -one/2-2, -one/2-2, -one/2-2)} {
		for _, z := range []int64{1, -5, top} { // a third of a turn about the diagonal
			checkNorth(t, "turned to straight up", axis, placed(api.Vec{}, 1-i, z), stays(axis))
		}
	}
	checkNorth(t, "turned to 0 by rounding", towards(t, 1000, 1, 1, 0), v3(0, 0, 100), stays(towards(t, 1000, 1, 1, 0)))
	checkNorth(t, "X is 0", f4(one+4, 0, 0, 0), v3(0, 1, 9), good(one, 0, 0, 0))
	checkNorth(t, "X is 0, southward", f4(one-4, 0, 0, 0), v3(0, -1, 9), good(one, 0, 0, 0))
	checkNorth(t, "Y is 0", f4(one+4, 0, 0, 0), v3(1, 0, 9), good(1073709058, 0, 0, 8388352))
}

// P15.2: what a spin adds is rounded by itself: just between two to the even one, whatever it is added to.
func TestHalvesOfSpins(t *testing.T) {
	for i := range 3 {
		for _, c := range []struct{ w, add int64 }{{1, 0}, {2, 1}, {3, 2}, {4, 2}, {5, 2}, {6, 3}, {7, 4}, {9, 4}, {11, 6}, {1001, 500}, {1003, 502}} {
			for _, sign := range []int64{1, -1} {
				w := placed(api.Vec{}, i, sign*c.w)
				checkSpin(t, "to 0", fuse.Fresh(), w, 1, stays(put(fuse.Fresh(), i+1, sign*c.add)))
				checkSpin(t, "to 1", put(fuse.Fresh(), i+1, 1), w, 1, stays(put(fuse.Fresh(), i+1, 1+sign*c.add)))
				checkSpin(t, "to -3", put(fuse.Fresh(), i+1, -3), w, 1, stays(put(fuse.Fresh(), i+1, sign*c.add-3)))
			}
		}
	}
	// A half of W: -(2^30 - 1) 2^30 / 2^31 is (1 - 2^30) / 2 = -536870911.5, to even -536870912.
	checkSpin(t, "a half of W", f4(0, one-1, 0, 0), v3(one, 0, 0), 1, wantSpin(f4(0, one-1, 0, 0), v3(one, 0, 0), 1))
	checkSpin(t, "in W", f4(1, one, 0, 0), v3(1, 0, 0), 1, good(1, one, 0, 0))
	checkSpin(t, "in W, three halves", f4(1, one, 0, 0), v3(3, 0, 0), 1, good(-1, one, 0, 0))
	checkSpin(t, "in W, five halves back", f4(1, 0, one, 0), v3(0, -5, 0), 1, good(3, 0, one, 0))
	checkSpin(t, "in Z", f4(0, 0, one, 1), v3(3, 0, 0), 1, good(0, 0, one, -1))
	checkSpin(t, "in Y", f4(0, 0, -1, one), v3(-1, 0, 0), 1, good(0, 0, -1, one))
	checkSpin(t, "in X", f4(0, 1, 0, one), v3(0, 3, 0), 1, good(0, -1, 0, one))
}

// P15.3: c just between two whole numbers, and one unit beside. Of the fresh one e is (my, -mx, 0).
func TestHalvesOfUps(t *testing.T) {
	for _, c := range []struct{ x, z, unit, c int64 }{
		{3, 10098188, 319, 2}, {3, 10066330, 320, 2}, {3, 10034971, 321, 3},
		{4, 9608429, 447, 3}, {4, 9586981, 448, 4}, {4, 9565629, 449, 4},
		{5, 9336885, 575, 4}, {5, 9320675, 576, 4}, {5, 9304522, 577, 5},
	} {
		if m := unitOf(longs(c.x, 0, c.z)); m[0].Int64() != c.unit {
			t.Errorf("%d, %d: %v, not %d", c.x, c.z, m, c.unit)
		}
		for _, sign := range []int64{1, -1} {
			checkUp(t, "by x", fuse.Fresh(), v3(sign*c.x, 0, c.z), good(one, 0, -sign*c.c, 0))
			checkUp(t, "by y", fuse.Fresh(), v3(0, sign*c.x, c.z), good(one, sign*c.c, 0, 0))
			checkUp(t, "by x, downward", fuse.Fresh(), v3(sign*c.x, 0, -c.z), good(one, 0, -sign*c.c, 0))
		}
	}
}

// P15.4: c just between two whole numbers, and one unit beside.
func TestHalvesOfNorths(t *testing.T) {
	for _, c := range []struct{ x, c int64 }{
		{63, 0}, {64, 0}, {65, 1}, {127, 1}, {128, 1}, {129, 1}, {191, 1}, {192, 2}, {193, 2},
		{319, 2}, {320, 2}, {321, 3}, {447, 3}, {448, 4}, {449, 4},
	} {
		for _, sign := range []int64{1, -1} {
			checkNorth(t, "northward", fuse.Fresh(), v3(sign*c.x, one, 7), good(one, 0, 0, sign*c.c))
			checkNorth(t, "southward", fuse.Fresh(), v3(sign*c.x, -one, 7), good(one, 0, 0, sign*c.c))
			checkNorth(t, "upside down", f4(0, one, 0, 0), v3(sign*c.x, -one, 7), good(0, one, sign*c.c, 0))
		}
	}
}
