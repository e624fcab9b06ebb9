package thin_test

import (
	"math"
	"math/rand"
	"testing"

	"gimbal/api"
)

// wrongCounts are no k: beside its ends, those that would be right if they were cut to fewer bits, and far beyond.
func wrongCounts() []int {
	return []int{0, -1, 257, 258, -2, -255, -256, -257, 511, 512, 513, 1 << 16, 1 << 31, 1 << 32, 1<<32 + 1, -1 << 32, 1 - 1<<32, math.MaxInt, math.MinInt, math.MinInt + 1}
}

// wrongNs are none of N.
func wrongNs() []int {
	return []int{-1, 256, 257, -2, -255, -256, 300, 511, 512, 1 << 16, 1 << 31, 1 << 32, 1<<32 + 1, -1 << 32, math.MaxInt, math.MinInt, math.MinInt + 1}
}

// wrongBy are v with one number that is at the limit or beyond it, at each place.
func wrongBy(v api.Vec, limit int64) []api.Vec {
	var list []api.Vec
	for i := range 3 {
		for _, wrong := range []int64{limit, -limit, limit + 1, -limit - 1, 2 * limit, -2 * limit, 1 << 62, math.MaxInt64, math.MinInt64, math.MinInt64 + 1} {
			list = append(list, placed(v, i, wrong))
		}
	}
	return list
}

func wrongSums(v api.Vec) []api.Vec    { return wrongBy(v, topSum+1) }
func wrongVectors(v api.Vec) []api.Vec { return wrongBy(v, top+1) }

// rights are right ones, at the ends of N and between.
func rights() []api.Thin {
	return []api.Thin{{}, far(api.Vec{}, 1), far(v3(1, -2, 3), 1), far(all(topSum), 2), far(all(-topSum), 254), far(v3(topSum, 0, -topSum), last), far(all(100), last)}
}

// P14.1: what is of no form is told as that, with zeroes beside it; what is right is told as ahead of it.
func TestWrongTakes(t *testing.T) {
	for _, at := range rights() {
		for _, k := range counts() {
			for _, v := range []api.Vec{{}, v3(1, 2, 3), all(top), v3(-top, top, 0)} {
				ahead := taken(at, k, v)
				wrongTakes(t, at, k, v)
				if behind := taken(at, k, v); behind != ahead || ahead != wantTake(at, k, v) {
					t.Errorf("Take(%+v, %d, %+v): %+v, then %+v", at, k, v, ahead, behind)
				}
			}
		}
	}
}

func wrongTakes(t *testing.T, at api.Thin, k int, v api.Vec) {
	t.Helper()
	none := bad(api.ErrForm)
	for _, wrong := range wrongCounts() {
		check(t, []row{{"no k", at, wrong, v, none}})
	}
	for _, wrong := range wrongNs() {
		check(t, []row{
			{"no N", far(at.Sum, wrong), k, v, none},
			{"no N, with a sum of 0", far(api.Vec{}, wrong), k, v, none},
			{"no N, no k", far(at.Sum, wrong), 0, v, none},
		})
	}
	for _, wrong := range wrongSums(at.Sum) {
		check(t, []row{
			{"no sum", far(wrong, max(at.N, 1)), k, v, none},
			{"no sum, of none", far(wrong, 0), k, v, none},
			{"no sum, of the most", far(wrong, last), k, v, none},
			{"no sum, no sample", far(wrong, max(at.N, 1)), k, all(top + 1), none},
		})
	}
	for _, wrong := range wrongVectors(v) {
		check(t, []row{
			{"no sample", at, k, wrong, none},
			{"no sample, no k", at, 257, wrong, none},
		})
	}
}

// P14.1: a sum that is not 0 of no samples, in each number.
func TestSumOfNone(t *testing.T) {
	for _, k := range counts() {
		for i := range 3 {
			for _, number := range []int64{1, -1, 2, 1000, top, -top, topSum, -topSum} {
				check(t, []row{
					{"of none", far(placed(all(0), i, number), 0), k, v3(1, 2, 3), bad(api.ErrForm)},
					{"of none, with a sample that takes it back", far(placed(all(0), i, 5), 0), k, placed(all(0), i, -5), bad(api.ErrForm)},
				})
			}
		}
	}
}

// P14.1: what is of no form is told ahead of a mean that would be no word.
func TestFormAheadOfRange(t *testing.T) {
	at := far(all(topSum), 1)
	check(t, []row{
		{"out of range", at, 2, all(0), bad(api.ErrRange)},
		{"no k", at, 0, all(0), bad(api.ErrForm)},
		{"no sample", at, 2, v3(0, 0, top+1), bad(api.ErrForm)},
		{"no sum in the last number", far(v3(topSum, topSum, topSum+1), 1), 2, all(0), bad(api.ErrForm)},
	})
}

// someBelow is at the edges and between, of all lengths, at most the limit without its sign.
func someBelow(source *rand.Rand, limit int64) int64 {
	edges := []int64{0, 1, 2, 3, 127, 128, 129, 255, 256, limit - 1, limit}
	v := min(limit, source.Int63()>>(10+source.Intn(54)))
	if source.Intn(3) == 0 {
		v = edges[source.Intn(len(edges))]
	}
	if source.Intn(2) == 0 {
		return -v
	}
	return v
}

func someVector(source *rand.Rand, limit int64) api.Vec {
	return v3(someBelow(source, limit), someBelow(source, limit), someBelow(source, limit))
}

// someTake is right, and as often as not the last sample of a mean.
func someTake(source *rand.Rand) (api.Thin, int, api.Vec) {
	k := 1 + source.Intn(most)
	n := source.Intn(most)
	if source.Intn(2) == 0 {
		n = k - 1
	}
	at := far(someVector(source, topSum), n)
	if source.Intn(2) == 0 {
		at.Sum = someVector(source, min(topSum, top*int64(max(n, 1))))
	}
	if n == 0 {
		at.Sum = api.Vec{}
	}
	return at, k, someVector(source, top)
}

func one(source *rand.Rand, list []api.Vec) api.Vec { return list[source.Intn(len(list))] }

// P14.1, held against numbers of any length.
func TestExactly(t *testing.T) {
	source := rand.New(rand.NewSource(14))
	met := map[api.Errno]int{}
	told := 0
	for range 80000 {
		at, k, v := someTake(source)
		switch source.Intn(40) {
		case 0:
			k = wrongCounts()[source.Intn(len(wrongCounts()))]
		case 1:
			at.N = wrongNs()[source.Intn(len(wrongNs()))]
		case 2:
			at.Sum = one(source, wrongSums(at.Sum))
		case 3:
			v = one(source, wrongVectors(v))
		case 4:
			at.N = 0
		}
		want := wantTake(at, k, v)
		if got := taken(at, k, v); got != want {
			t.Fatalf("Take(%+v, %d, %+v): %+v, not %+v", at, k, v, got, want)
		}
		met[want.e]++
		if want.told {
			told++
		}
	}
	if met[api.ErrForm] < 4000 || met[api.ErrRange] < 4000 || told < 10000 || met[api.OK]-told < 10000 {
		t.Errorf("too few of a kind: %v, %d told", met, told)
	}
}
