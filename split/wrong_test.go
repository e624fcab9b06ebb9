package split_test

import (
	"math"
	"math/rand"
	"testing"

	"gimbal/api"
	"gimbal/fuse"
	"gimbal/split"
)

// wrongWords are no words.
func wrongWords() []int64 {
	return []int64{top + 1, -top - 1, top + 2, 1 << 46, -1 << 46, 1 << 60, 1 << 62, -1 << 62, math.MaxInt64, math.MinInt64, math.MinInt64 + 1}
}

// wrongOnes are no orientations: too short, too long, of numbers that are no words.
func wrongOnes() []api.Fuse {
	list := []api.Fuse{
		{}, f4(1, 0, 0, 0), f4(one-5, 0, 0, 0), f4(0, one+5, 0, 0), f4(one, one, 0, 0), f4(one, 0, 0, 1<<20), f4(one/2, one/2, one/2, 0),
		f4(1, 1, 0, 0), f4(0, 0, one/2, one/2), f4(one, -one, one, -one), f4(2*one, 0, 0, 0), f4(top, top, top, top), f4(1<<32, 0, 0, 0), f4(0, 0, 0, 1<<32+one),
	}
	for _, v := range wrongWords() {
		list = append(list, f4(v, 0, 0, 0), f4(one, v, 0, 0), f4(one, 0, v, 0), f4(0, one, 0, v))
	}
	return list
}

// P16.1: no orientation, whatever else is wrong or right: also where a turn by it would tell something else.
func TestNoOrientations(t *testing.T) {
	none := bad(api.ErrForm)
	for _, f := range wrongOnes() {
		checkGravity(t, "no orientation", f, none)
		checkHeading(t, "no orientation", f, angle{e: api.ErrForm})
		for _, a := range []api.Vec{{}, v3(1, 2, 3), v3(0, 0, g), v3(top, -top, top), v3(top+1, 0, 0), v3(0, 0, math.MinInt64)} {
			checkLinear(t, "no orientation", f, a, none)
		}
	}
}

// P16.1: an a that is no vector, in each of its numbers: ahead of another number of which the rest is no word.
func TestNoVectors(t *testing.T) {
	none := bad(api.ErrForm)
	for _, f := range append(someOrientations(t), longOnes()...) {
		ahead := of(split.Linear(f, v3(1, 2, 3)))
		for i := range 3 {
			for _, wrong := range wrongWords() {
				for _, a := range []api.Vec{{}, v3(1, -2, 3), v3(top, top, top), v3(-top, -top, -top)} {
					checkLinear(t, "no vector", f, placed(a, i, wrong), none)
				}
			}
		}
		if got := of(split.Linear(f, v3(1, 2, 3))); got != ahead {
			t.Errorf("Linear(%v, ..): %v, then %v", f, ahead, got)
		}
	}
	// What is no word is malformed, also where less gravity it would be one.
	checkLinear(t, "a word behind it", fuse.Fresh(), v3(0, 0, top+1), none)
	checkLinear(t, "a word behind it", fuse.Fresh(), v3(0, 0, top+g), none)
	checkLinear(t, "a word still", fuse.Fresh(), v3(0, 0, top), good(0, 0, top-g))
}

// P16.2: p and p0 at 0, below it, and beyond a word, one of them or both.
func TestNoPressures(t *testing.T) {
	wrong := append(wrongWords(), 0, -1, -2, -101325, -top)
	for _, v := range wrong {
		for _, w := range append(wrong, 1, 2, 101325, top) {
			for _, c := range [][2]int64{{v, w}, {w, v}} {
				if h, e := split.Altitude(c[0], c[1]); h != 0 || e != api.ErrForm {
					t.Errorf("Altitude(%d, %d): %d, %v", c[0], c[1], h, e)
				}
			}
		}
	}
}

// someOne is an orientation from any side, mostly not quite as long as One.
func someOne(t *testing.T, source *rand.Rand) api.Fuse {
	t.Helper()
	part := func() int64 { return (source.Int63n(2*one) - one) >> source.Intn(30) }
	f := towards(t, part(), part(), part(), part()|1)
	for range 20 {
		near := f4(f.Q.W+source.Int63n(9)-4, f.Q.X+source.Int63n(9)-4, f.Q.Y+source.Int63n(9)-4, f.Q.Z+source.Int63n(9)-4)
		if fuse.Check(near) == api.OK {
			return near
		}
	}
	return f
}

func someWord(source *rand.Rand) int64 {
	v := source.Int63n(top+1) >> source.Intn(45)
	if source.Intn(4) == 0 {
		v = top - source.Int63n(2*g)
	}
	if source.Intn(2) == 0 {
		return -v
	}
	return v
}

// P16.1, held against numbers of any length.
func TestSplitExactly(t *testing.T) {
	source := rand.New(rand.NewSource(16))
	met := map[api.Errno]int{}
	for range 5000 {
		f := someOne(t, source)
		a := v3(someWord(source), someWord(source), someWord(source))
		if source.Intn(20) == 0 {
			a = placed(a, source.Intn(3), wrongWords()[source.Intn(len(wrongWords()))])
		}
		checkGravity(t, "any", f, wantGravity(f))
		checkLinear(t, "any", f, a, wantLinear(f, a))
		checkHeading(t, "any", f, wantHeading(f))
		met[wantLinear(f, a).e]++
		if t.Failed() {
			return
		}
	}
	for _, e := range []api.Errno{api.OK, api.ErrForm, api.ErrRange} {
		if met[e] < 100 {
			t.Errorf("too few of %v: %v", e, met)
		}
	}
}

// P16.2, held against numbers of any length.
func TestAltitudeExactly(t *testing.T) {
	source := rand.New(rand.NewSource(162))
	for range 1000 {
		p, p0 := source.Int63n(top)>>source.Intn(45)+1, source.Int63n(top)>>source.Intn(45)+1
		checkAltitudeExactly(t, p, p0)
		checkAltitudeExactly(t, p, min(p+source.Int63n(1000), top))
	}
}
