package learn_test

import (
	"math"
	"math/rand"
	"testing"

	"gimbal/api"
	"gimbal/learn"
)

// someLearns are how far it may be: all 0, ordinary ones, at the edges, and those whose mean is no word, where there would be another error.
func someLearns() []api.Learn {
	return []api.Learn{
		{},
		far(v3(5, -6, 7), api.Vec{}, 0),
		far(v3(5, -6, 7), v3(50, -60, 70), 10),
		far(v3(5, -6, 7), v3(1, 2, 3), last),
		far(all(top), api.Vec{}, 0),
		far(all(top), all(topSum), last),
		far(all(-top), all(-topSum), last),
		far(all(top), all(-topSum), 1),
		far(api.Vec{}, all(topSum), last),
	}
}

func someVectors() []api.Vec {
	return []api.Vec{{}, v3(1, 2, -3), v3(gate, -gate, gate), all(top), all(-top), v3(6, -5, 8)}
}

// wrongLearns are l with one field that it may not have, in each of its places.
func wrongLearns(l api.Learn) []api.Learn {
	var list []api.Learn
	for i := range 3 {
		for _, wrong := range wrongWords() {
			made := l
			*numbers(&made.Bias)[i] = wrong
			list = append(list, made)
		}
		for _, wrong := range []int64{topSum + 1, -topSum - 1, 1 << 52, 1 << 62, math.MaxInt64, math.MinInt64, math.MinInt64 + 1} {
			made := l
			*numbers(&made.Sum)[i] = wrong
			list = append(list, made)
		}
		for _, sum := range []int64{1, -1, top, topSum, -topSum} {
			made := far(l.Bias, api.Vec{}, 0)
			*numbers(&made.Sum)[i] = sum
			list = append(list, made)
		}
	}
	for _, n := range []int{-1, -2, api.Quiet, api.Quiet + 1, 255, 256, 1 << 32, 1<<32 + 1, math.MaxInt, math.MinInt} {
		list = append(list, far(l.Bias, l.Sum, n), far(l.Bias, api.Vec{}, n))
	}
	return list
}

// wrongWords are no words.
func wrongWords() []int64 {
	return []int64{top + 1, -top - 1, 1 << 46, 1 << 62, math.MaxInt64, math.MinInt64}
}

// wrongVectors are v with one number that is no word, at each place.
func wrongVectors(v api.Vec) []api.Vec {
	var list []api.Vec
	for i := range 3 {
		for _, wrong := range wrongWords() {
			made := v
			*numbers(&made)[i] = wrong
			list = append(list, made)
		}
	}
	return list
}

// P11.1: Check, at the bounds of each number.
func TestCheck(t *testing.T) {
	right := func(l api.Learn) {
		t.Helper()
		if e := learn.Check(l); e != api.OK {
			t.Errorf("Check(%+v): %v", l, e)
		}
	}
	for _, l := range someLearns() {
		right(l)
		for i := range 3 {
			for _, v := range []int64{0, 1, -1, top - 1, top, 1 - top, -top} {
				made := l
				*numbers(&made.Bias)[i] = v
				right(made)
			}
			for _, v := range []int64{0, 1, -1, top + 1, -top - 1, topSum - 1, topSum, 1 - topSum, -topSum} {
				made := far(l.Bias, l.Sum, max(l.N, 1))
				*numbers(&made.Sum)[i] = v
				right(made)
			}
		}
		for n := 1; n < api.Quiet; n++ {
			right(far(l.Bias, l.Sum, n))
			right(far(l.Bias, api.Vec{}, n))
		}
		right(far(l.Bias, api.Vec{}, 0))
		for _, wrong := range wrongLearns(l) {
			if e := learn.Check(wrong); e != api.ErrForm {
				t.Errorf("Check(%+v): %v", wrong, e)
			}
		}
	}
}

// P11.1: what is none is told ahead of a mean that is no word and of a sample that is far away; what is right is told as ahead of it.
func TestWrongTakes(t *testing.T) {
	for _, l := range someLearns() {
		for _, v := range someVectors() {
			ahead := taken(l, v)
			for _, wrong := range wrongLearns(l) {
				check(t, []row{{"no such one", wrong, v, bad(api.ErrForm)}})
			}
			for _, wrong := range wrongVectors(v) {
				check(t, []row{
					{"no vector", l, wrong, bad(api.ErrForm)},
					{"neither", far(l.Bias, l.Sum, -1), wrong, bad(api.ErrForm)},
				})
			}
			if behind := taken(l, v); behind != ahead {
				t.Errorf("Take(%+v, %+v): %+v, then %+v", l, v, ahead, behind)
			}
		}
	}
}

// someNumber is below 2^bits without its sign: at its edges and between, of all lengths.
func someNumber(source *rand.Rand, bits int) int64 {
	edges := []int64{0, 1, 15, 16, 17, 31, 32, 48, gate, 1 << (bits - 1), 1<<bits - 1}
	v := source.Int63() >> (63 - bits + source.Intn(bits+1))
	if source.Intn(3) == 0 {
		v = edges[source.Intn(len(edges))]
	}
	if source.Intn(2) == 0 {
		return -v
	}
	return v
}

// someTake is a state and a sample that is near it as often as not.
func someTake(source *rand.Rand) (api.Learn, api.Vec) {
	l, v := far(api.Vec{}, api.Vec{}, source.Intn(api.Quiet)), api.Vec{}
	if source.Intn(2) == 0 {
		l.N = last
	}
	for i, bias := range numbers(&l.Bias) {
		*bias = someNumber(source, api.Bits)
		away := someNumber(source, 20)
		if source.Intn(10) == 0 {
			away = []int64{gate, -gate, gate + 1, -gate - 1, 3 * gate}[source.Intn(5)]
		}
		*numbers(&v)[i] = max(-top, min(*bias+away, top))
		if l.N > 0 {
			*numbers(&l.Sum)[i] = someNumber(source, 50+source.Intn(2)*source.Intn(2))
		}
	}
	return l, v
}

// P11.1, held against numbers of any length.
func TestExactly(t *testing.T) {
	source := rand.New(rand.NewSource(11))
	seen := map[string]int{}
	for range 60000 {
		l, v := someTake(source)
		if source.Intn(20) == 0 {
			wrong := wrongLearns(l)
			l = wrong[source.Intn(len(wrong))]
		}
		if source.Intn(20) == 0 {
			wrong := wrongVectors(v)
			v = wrong[source.Intn(len(wrong))]
		}
		want := wantTake(l, v)
		seen[kindOf(want)]++
		if got := taken(l, v); got != want {
			t.Fatalf("Take(%+v, %+v): %+v, not %+v", l, v, got, want)
		}
		if (learn.Check(l) == api.OK) != isLearn(l) {
			t.Fatalf("Check(%+v): %v", l, learn.Check(l))
		}
	}
	for _, kind := range []string{"malformed", "out of range", "learned", "anew", "more"} {
		if seen[kind] < 1000 {
			t.Errorf("%s only %d times", kind, seen[kind])
		}
	}
}

func kindOf(a answer) string {
	switch {
	case a.e != api.OK:
		return a.e.Error()
	case a.told:
		return "learned"
	case a.l.N == 0:
		return "anew"
	}
	return "more"
}

// P11.1, P11.2: long runs, held against the samples themselves that lie behind the last one that was far away.
func TestRuns(t *testing.T) {
	source := rand.New(rand.NewSource(12))
	for range 40 {
		l, kept, times := api.Learn{}, []api.Vec{}, 0
		for range 1500 {
			v := l.Bias
			for _, number := range numbers(&v) {
				*number += source.Int63n(2*gate+1) - gate
			}
			away := source.Intn(60) == 0
			if away {
				*numbers(&v)[source.Intn(3)] += 2*gate + 1
			}
			want := far(l.Bias, api.Vec{}, 0)
			kept = append(kept, v)
			if away {
				kept = kept[:0]
			}
			full := len(kept) == 32
			if full {
				want.Bias = meanOf(kept)
				kept = kept[:0]
				times++
			}
			for _, x := range kept {
				want.Sum = v3(want.Sum.X+x.X, want.Sum.Y+x.Y, want.Sum.Z+x.Z)
				want.N++
			}
			if got := taken(l, v); got != (answer{l: want, told: full}) {
				t.Fatalf("Take(%+v, %+v): %+v, not %+v", l, v, got, want)
			}
			l = want
		}
		if times < 5 {
			t.Errorf("learned only %d times", times)
		}
	}
}
