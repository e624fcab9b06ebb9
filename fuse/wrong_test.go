package fuse_test

import (
	"math"
	"math/rand"
	"testing"

	"gimbal/api"
	"gimbal/fuse"
)

// wrongWords are no words.
func wrongWords() []int64 {
	return []int64{top + 1, -top - 1, top + 2, 1 << 46, -1 << 46, 1 << 60, 1 << 62, -1 << 62, math.MaxInt64, math.MinInt64, math.MinInt64 + 1}
}

// wrongVectors are v with one number that is no word, at each place.
func wrongVectors(v api.Vec) []api.Vec {
	var list []api.Vec
	for i := range 3 {
		for _, wrong := range wrongWords() {
			list = append(list, placed(v, i, wrong))
		}
	}
	return list
}

// wrongOnes are no orientations: too short, too long, of numbers whose squares wrap to what would be right, of numbers that are no words.
func wrongOnes() []api.Fuse {
	list := []api.Fuse{{}, f4(1, 0, 0, 0), f4(one/2, one/2, one/2, 0), f4(one, one, 0, 0), f4(one, 1<<20, 0, 0), f4(one-5, 0, 0, 0), f4(one+5, 0, 0, 0)}
	for i := range 4 {
		for _, wrong := range wrongWords() {
			list = append(list, put(fuse.Fresh(), i, wrong), put(api.Fuse{}, i, wrong))
		}
		for _, wrong := range []int64{one + 5, -one - 5, 1 << 32, -1 << 32, 1 << 33, 1 << 40, 1<<32 + one, 1<<32 - one, 1<<33 - one, top, -top} {
			list = append(list, put(fuse.Fresh(), i, wrong), put(f4(0, one, 0, 0), i, wrong), put(api.Fuse{}, i, wrong))
		}
	}
	return append(list, f4(top, top, top, top), f4(-top, top, -top, top), f4(1<<32, 1<<32, 1<<32, one))
}

// wrongTicks are no n: beside its ends, those that would be right if they were cut to fewer bits, and far beyond.
func wrongTicks() []int {
	return []int{-1, 1001, -2, 1002, -1000, 1024, 1 << 16, 1 << 31, 1 << 32, 1<<32 + 1, -1 << 32, math.MaxInt, math.MinInt, math.MinInt + 1}
}

// P15.1: no orientation is told by Check, and first by the others, whatever else is wrong.
func TestNoOrientations(t *testing.T) {
	none := bad(api.ErrForm)
	for _, f := range wrongOnes() {
		if e := fuse.Check(f); e != api.ErrForm || isOne(longQuat(f.Q)) {
			t.Errorf("Check(%v): %v", f, e)
		}
		for _, w := range []api.Vec{{}, v3(1, 2, 3), v3(one, one, one), v3(one+1, 0, 0), v3(0, 0, top), v3(top+1, 0, 0), v3(0, math.MinInt64, 0)} {
			for _, n := range []int{0, 1, last, -1, last + 1} {
				checkSpin(t, "no orientation", f, w, n, none)
			}
		}
		for _, a := range []api.Vec{{}, v3(0, 0, g), v3(g, 0, 0), v3(0, 2*g, 0), v3(top, top, top), v3(0, 0, top+1)} {
			checkUp(t, "no orientation", f, a, none)
		}
		for _, m := range []api.Vec{{}, v3(0, 0, 9), v3(5, 0, 0), v3(top, top, top), v3(0, -top-1, 0)} {
			checkNorth(t, "no orientation", f, m, none)
		}
	}
}

// P15.2, P15.3, P15.4: what is of no form is told as that, with zeroes beside it; what is right is told as ahead of it.
func TestWrongInputs(t *testing.T) {
	none := bad(api.ErrForm)
	for _, f := range append(someOrientations(t), longOnes()...) {
		ahead := steps(f)
		for _, n := range wrongTicks() {
			for _, w := range []api.Vec{{}, v3(1, 2, 3), v3(one+1, 0, 0), v3(top, top, top)} {
				checkSpin(t, "no ticks", f, w, n, none)
			}
		}
		for _, v := range []api.Vec{{}, v3(1, 2, 3), v3(0, 0, g), v3(one+1, 0, -top)} {
			for _, wrong := range wrongVectors(v) {
				for _, n := range []int{0, 1, last, -1, last + 1} {
					checkSpin(t, "no rate", f, wrong, n, none)
				}
				checkUp(t, "no acceleration", f, wrong, none)
				checkNorth(t, "no field", f, wrong, none)
			}
		}
		for name, got := range steps(f) {
			if got != ahead[name] {
				t.Errorf("%s from %v: %v, then %v", name, f, ahead[name], got)
			}
		}
	}
}

// P15.2: what is of no form is told ahead of a rate that is too great, at whatever place it stands.
func TestFormAheadOfRange(t *testing.T) {
	f := fuse.Fresh()
	checkSpin(t, "too great", f, v3(one+1, 0, 0), 1, bad(api.ErrRange))
	checkSpin(t, "too great in all", f, v3(-top, top, -top), last, bad(api.ErrRange))
	checkSpin(t, "no rate behind it", f, v3(one+1, 0, top+1), 1, bad(api.ErrForm))
	checkSpin(t, "no ticks", f, v3(one+1, 0, 0), -1, bad(api.ErrForm))
	checkSpin(t, "too many ticks", f, v3(one+1, 0, 0), last+1, bad(api.ErrForm))
	checkSpin(t, "no orientation", f4(one+5, 0, 0, 0), v3(one+1, 0, 0), 1, bad(api.ErrForm))
}

// P15.4: a field whose turned one is no vector: quat.Turn's error, in whichever number; what is just a vector goes on.
func TestFieldOutOfRange(t *testing.T) {
	third := f4(one/2, one/2, one/2, one/2)
	eighth := towards(t, 2414, 0, 0, 1000) // about z
	lean := towards(t, 2414, 1000, 0, 0)   // about x
	checkNorth(t, "X", eighth, v3(top, -top, 0), bad(api.ErrRange))
	checkNorth(t, "Y", eighth, v3(top, top, 0), bad(api.ErrRange))
	checkNorth(t, "Z", lean, v3(0, top, top), bad(api.ErrRange))
	quarter := towards(t, 1, 1, 0, 0)
	checkNorth(t, "Z just a word, with nothing level", quarter, v3(0, top, 0), stays(quarter))
	checkNorth(t, "below", eighth, v3(-top, -top, 0), bad(api.ErrRange))
	for _, m := range []api.Vec{v3(top, top, top), v3(-top, -top, -top), v3(top, -top, top)} { // a third of a turn leaves the numbers as they are, but for their places
		want := wantNorth(third, m)
		if want.e != api.OK || want.f == third {
			t.Errorf("a vector still: %v", want)
		}
		checkNorth(t, "a vector still", third, m, want)
	}
}

func someVector(source *rand.Rand, limit int64) api.Vec {
	part := func() int64 {
		v := source.Int63n(limit+1) >> source.Intn(46)
		if source.Intn(8) == 0 {
			v = limit
		}
		if source.Intn(2) == 0 {
			return -v
		}
		return v
	}
	return v3(part(), part(), part())
}

// someSpin is mostly within the range.
func someSpin(source *rand.Rand) (api.Vec, int) {
	n := source.Intn(last + 1)
	if source.Intn(3) == 0 {
		n = source.Intn(3)
	}
	w := someVector(source, one/int64(max(n, 1)))
	if source.Intn(10) == 0 {
		*numbers(&w)[source.Intn(3)] += one / int64(max(n, 1))
	}
	return w, n
}

// P15.2, P15.3, P15.4, held against numbers of any length.
func TestExactly(t *testing.T) {
	source := rand.New(rand.NewSource(15))
	met := map[string]int{}
	meet := func(name string, f api.Fuse, want answer) {
		met[name+" "+want.e.Error()]++
		if want == stays(f) {
			met[name+" stays"]++
		}
	}
	for range 6000 {
		f := someOne(t, source)
		if source.Intn(40) == 0 {
			f = wrongOnes()[source.Intn(len(wrongOnes()))]
		}
		w, n := someSpin(source)
		checkSpin(t, "any", f, w, n, wantSpin(f, w, n))
		meet("spin", f, wantSpin(f, w, n))
		a := someGravity(source)
		checkUp(t, "any", f, a, wantUp(f, a))
		meet("up", f, wantUp(f, a))
		m := someVector(source, top)
		checkNorth(t, "any", f, m, wantNorth(f, m))
		meet("north", f, wantNorth(f, m))
		if t.Failed() {
			return
		}
	}
	for _, name := range []string{"spin ok", "spin malformed", "spin out of range", "up ok", "up malformed", "up stays", "north ok", "north malformed", "north out of range"} {
		if met[name] < 100 {
			t.Errorf("too few of %s: %v", name, met)
		}
	}
}
