package fuse_test

import (
	"math/rand"
	"testing"

	"gimbal/api"
	"gimbal/fuse"
	"gimbal/quat"
	"gimbal/vec"
)

// shown is what f shows as up, in the device's axes.
func shown(f api.Fuse) api.Vec {
	u, _ := quat.Back(f.Q, v3(0, 0, one))
	return u
}

// turnsUp takes one step of Up and tells the orientation behind it, and how far what is shown is along what is measured, in Q30.
func turnsUp(t *testing.T, f api.Fuse, a api.Vec) (api.Fuse, int64) {
	t.Helper()
	h, e := fuse.Up(f, a)
	measured, _ := vec.Unit(a)
	ahead, _ := vec.Dot(shown(f), measured)
	behind, _ := vec.Dot(shown(h), measured)
	moved, _ := vec.Sub(shown(h), shown(f))
	n, _ := vec.Norm(moved)
	if e != api.OK || fuse.Check(h) != api.OK || behind < ahead-1<<10 || n > one/32 {
		t.Fatalf("Up(%v, %v): %v, %v: from %d to %d along it, moved by %d", f, a, h, e, ahead, behind, n)
	}
	return h, behind
}

// someGravities are accelerations within the gate, from all sides.
func someGravities() []api.Vec {
	return []api.Vec{
		v3(g, 0, 0), v3(-g, 0, 0), v3(0, g, 0), v3(0, -g, 0), v3(0, 0, g), v3(0, 0, -g),
		v3(8580819, 0, 0), v3(0, 0, 11032481), v3(6000000, -6000000, 4000000), v3(-1, 2, -g), v3(1000000, -2000000, 9500000),
	}
}

// P15.3, P15.5: by a steady acceleration, again and again, what is shown as up comes to what is measured, and is never turned away from it.
func TestUpAgainAndAgain(t *testing.T) {
	for _, start := range someOrientations(t) {
		for _, a := range someGravities() {
			measured, _ := vec.Unit(a)
			along, _ := vec.Dot(shown(start), measured)
			isOpposite := along < 1<<16-one
			f, left := start, 900
			for ; left > 0 && along < one-one/1000; left-- {
				f, along = turnsUp(t, f, a)
				if isOpposite {
					break
				}
			}
			if left == 0 {
				t.Errorf("from %v by %v: %d along it", start, a, along)
			}
			for range 10 {
				f, along = turnsUp(t, f, a)
			}
		}
	}
}

// P15.5: nearer each time, as long as much is off: what is off by a right angle by 1/64.
func TestUpTurnsTowards(t *testing.T) {
	for _, a := range someGravities() {
		measured, _ := vec.Unit(a)
		for _, f := range someOrientations(t) {
			ahead, _ := vec.Dot(shown(f), measured)
			_, behind := turnsUp(t, f, a)
			if away(ahead, 0) < one/2 && (behind-ahead < one/100 || behind-ahead > one/64) {
				t.Errorf("Up(%v, %v): from %d to %d along it", f, a, ahead, behind)
			}
		}
	}
}

// someOne is an orientation from any side, as long as One or at an end of how long it may be.
func someOne(t *testing.T, source *rand.Rand) api.Fuse {
	t.Helper()
	if source.Intn(8) == 0 {
		list := longOnes()
		return list[source.Intn(len(list))]
	}
	part := func() int64 { return source.Int63n(2*one) - one>>source.Intn(30) }
	f := towards(t, part(), part(), part(), part())
	for _, v := range quatNumbers(&f.Q) {
		moved := *v + source.Int63n(7) - 3
		if was := *v; source.Intn(2) == 0 {
			*v = moved
			if fuse.Check(f) != api.OK {
				*v = was
			}
		}
	}
	return f
}

// someGravity is an acceleration about as long as Gravity, mostly within the gate.
func someGravity(source *rand.Rand) api.Vec {
	x, y, z := source.NormFloat64(), source.NormFloat64(), source.NormFloat64()
	v, _ := vec.Unit(v3(int64(x*one), int64(y*one), int64(z*one)+1))
	u, _ := vec.Scale(v, g-g/7+source.Int63n(2*g/7))
	return u
}

// P15.5: behind each step the orientation is one, and Up turns towards what is measured, wherever it comes from.
func TestSteps(t *testing.T) {
	source := rand.New(rand.NewSource(151))
	f := fuse.Fresh()
	for i := range 20000 {
		if i%100 == 0 {
			f = someOne(t, source)
		}
		e := api.OK
		switch source.Intn(3) {
		case 0:
			f, e = fuse.Spin(f, v3(source.Int63n(2*one)-one, source.Int63n(2*one)-one, source.Int63n(2*one)-one), 1)
		case 1:
			f, _ = turnsUp(t, f, someGravity(source))
		case 2:
			f, e = fuse.North(f, someField(source))
		}
		if e != api.OK || fuse.Check(f) != api.OK {
			t.Fatalf("step %d: %v, %v", i, f, e)
		}
	}
}

// someField is of all lengths, of which each turned one is a vector, too.
func someField(source *rand.Rand) api.Vec {
	part := func() int64 { return source.Int63n(1<<44) - 1<<43 }
	n := source.Intn(44)
	return v3(part()>>n, part()>>n, part()>>n)
}
