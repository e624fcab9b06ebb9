package cal_test

import (
	"math"
	"math/rand"
	"testing"

	"gimbal/api"
	"gimbal/cal"
)

// wrongWords are no words.
func wrongWords() []int64 {
	return []int64{top + 1, -top - 1, 1 << 46, 1 << 62, math.MaxInt64, math.MinInt64}
}

// words are the numbers of a calibration that must be words.
func words(c *api.Cal) []*int64 {
	list := []*int64{&c.Bias.X, &c.Bias.Y, &c.Bias.Z, &c.Heat.X, &c.Heat.Y, &c.Heat.Z}
	for i := range c.M {
		list = append(list, &c.M[i])
	}
	return list
}

// someCals are calibrations: one that is all 0, ordinary ones, and those whose image is no word, where there would be another error.
func someCals() []api.Cal {
	greatest := api.Cal{Bias: v3(top, top, top), Heat: v3(top, top, top), Ref: 127}
	least := api.Cal{Bias: v3(-top, -top, -top), Heat: v3(-top, -top, -top), Ref: -128}
	for i := range greatest.M {
		greatest.M[i], least.M[i] = top, -top
	}
	ordinary := heated(biased(matrix(one, 2, -3, 4, one, 5, -6, 7, one), v3(24, 48, -72)), v3(1, 0, -2), 10)
	return []api.Cal{{}, plain(), ordinary, greatest, least, biased(plain(), v3(-top, top, -top))}
}

func someRaws() []api.Raw {
	return []api.Raw{{}, raw(1, 2, -3, 20), raw(1<<15-1, 1<<15-1, 1<<15-1, 127), raw(-1<<15, -1<<15, -1<<15, -128), raw(1, -1, 1, 0)}
}

// wrongCals are c with one number that it may not have, at each of its places.
func wrongCals(c api.Cal) []api.Cal {
	var all []api.Cal
	for i := range words(&c) {
		for _, wrong := range wrongWords() {
			made := c
			*words(&made)[i] = wrong
			all = append(all, made)
		}
	}
	for _, ref := range []int{128, -129, 255, 256, -256, 1 << 32, math.MaxInt, math.MinInt} {
		made := c
		made.Ref = ref
		all = append(all, made)
	}
	return all
}

// wrongRaws are r with one number that it may not have, at each of its places.
func wrongRaws(r api.Raw) []api.Raw {
	var all []api.Raw
	for _, x := range []int{1 << 15, -1<<15 - 1, 1<<16 - 1, 1 << 16, 1 << 32, math.MaxInt, math.MinInt} {
		all = append(all, raw(x, r.Y, r.Z, r.T), raw(r.X, x, r.Z, r.T), raw(r.X, r.Y, x, r.T))
	}
	for _, temperature := range []int{128, -129, 255, 256, -256, 1 << 32, math.MaxInt, math.MinInt} {
		all = append(all, raw(r.X, r.Y, r.Z, temperature))
	}
	return all
}

// P10.1: Check, at the bounds of each number.
func TestCheck(t *testing.T) {
	for _, c := range someCals() {
		if e := cal.Check(c); e != api.OK {
			t.Errorf("Check(%+v): %v", c, e)
		}
		for i := range words(&c) {
			for _, right := range []int64{0, 1, -1, one, top - 1, top, 1 - top, -top} {
				made := c
				*words(&made)[i] = right
				if e := cal.Check(made); e != api.OK {
					t.Errorf("Check(%+v): %v", made, e)
				}
			}
		}
		for ref := -128; ref <= 127; ref++ {
			c.Ref = ref
			if e := cal.Check(c); e != api.OK {
				t.Errorf("Check(%+v): %v", c, e)
			}
		}
	}
}

// P10.1: a calibration that is none, ahead of an image that is no word; and what is right is told as ahead of it.
func TestWrongCalibrations(t *testing.T) {
	for _, c := range someCals() {
		for _, r := range someRaws() {
			ahead := told(c, r)
			for _, wrong := range wrongCals(c) {
				if e := cal.Check(wrong); e != api.ErrForm {
					t.Errorf("Check(%+v): %v", wrong, e)
				}
				check(t, []row{{"no calibration", wrong, r, bad(api.ErrForm)}})
				if behind := told(c, r); behind != ahead {
					t.Errorf("Apply(%+v, %+v): %v, then %v", c, r, ahead, behind)
				}
			}
		}
	}
	if p := cal.Plain(); p != plain() {
		t.Errorf("Plain: %+v", p)
	}
}

// P10.1: a raw sample that is none, ahead of an image that is no word, and beside a calibration that is none, too.
func TestWrongSamples(t *testing.T) {
	for _, c := range someCals() {
		for _, r := range someRaws() {
			ahead := told(c, r)
			for _, wrong := range wrongRaws(r) {
				check(t, []row{
					{"no sample", c, wrong, bad(api.ErrForm)},
					{"neither", biased(c, v3(0, top+1, 0)), wrong, bad(api.ErrForm)},
				})
				if behind := told(c, r); behind != ahead {
					t.Errorf("Apply(%+v, %+v): %v, then %v", c, r, ahead, behind)
				}
			}
		}
	}
}

// someWord is at its edges and between, of all lengths.
func someWord(source *rand.Rand) int64 {
	edges := []int64{0, 1, 2, 3, half - 1, half, half + 1, one - 1, one, one + 1, 3 * half, 1 << 37, 1 << 44, top - 1, top}
	v := source.Int63() >> (18 + source.Intn(46))
	if source.Intn(3) == 0 {
		v = edges[source.Intn(len(edges))]
	}
	if source.Intn(2) == 0 {
		return -v
	}
	return v
}

// someCal has a matrix that is small so often that its images are words as often as not.
func someCal(source *rand.Rand) api.Cal {
	c := api.Cal{Ref: source.Intn(256) - 128}
	for _, v := range words(&c) {
		*v = someWord(source)
	}
	small := source.Intn(46)
	for i := range c.M {
		c.M[i] >>= small
	}
	if source.Intn(20) == 0 {
		wrong := wrongCals(c)
		return wrong[source.Intn(len(wrong))]
	}
	return c
}

func someRaw(source *rand.Rand) api.Raw {
	number := func() int { return source.Intn(1<<16) - 1<<15 }
	r := raw(number(), number(), number(), source.Intn(256)-128)
	if source.Intn(20) == 0 {
		wrong := wrongRaws(r)
		return wrong[source.Intn(len(wrong))]
	}
	return r
}

// P10.1, held against numbers of any length.
func TestExactly(t *testing.T) {
	source := rand.New(rand.NewSource(10))
	seen := map[api.Errno]int{}
	for range 60000 {
		c, r := someCal(source), someRaw(source)
		want := wantApply(c, r)
		seen[want.e]++
		if got := told(c, r); got != want {
			t.Fatalf("Apply(%+v, %+v): %v, not %v", c, r, got, want)
		}
		if (cal.Check(c) == api.OK) != isCal(c) {
			t.Fatalf("Check(%+v): %v", c, cal.Check(c))
		}
	}
	for _, e := range []api.Errno{api.OK, api.ErrForm, api.ErrRange} {
		if seen[e] < 2000 {
			t.Errorf("%v only %d times", e, seen[e])
		}
	}
}
