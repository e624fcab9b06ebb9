package median_test

import (
	"math"
	"math/rand"
	"slices"
	"testing"

	"gimbal/api"
)

// wrongSizes are no n: beside those that are, those that would be right if they were cut to fewer bits, and far beyond.
func wrongSizes() []int {
	return []int{0, 2, 4, 6, 8, 9, 10, 11, 15, 256, 257, -1, -3, -5, -7, -2, 1<<32 + 1, 1<<32 + 3, 1 << 32, -1 << 32, math.MaxInt, math.MinInt, math.MinInt + 1}
}

// wrongVectors are v with one number that is no word, at each place.
func wrongVectors(v api.Vec) []api.Vec {
	var list []api.Vec
	for i := range 3 {
		for _, wrong := range []int64{top + 1, -top - 1, top + 2, 1 << 46, -1 << 46, 1 << 62, math.MaxInt64, math.MinInt64, math.MinInt64 + 1} {
			list = append(list, placed(v, i, wrong))
		}
	}
	return list
}

// P13.1: no n but four of them, whatever l is.
func TestWrongSizes(t *testing.T) {
	list := line(5, 1, 9, 2, 7, 3, 8, 4, 6)
	for _, n := range wrongSizes() {
		for k := range len(list) + 1 {
			check(t, []row{{"no n", list[:k], n, all(9), bad(api.ErrForm)}})
		}
	}
}

// P13.1: l with more than n vectors, by one and by many, right and wrong ones.
func TestTooLong(t *testing.T) {
	for _, n := range sizes() {
		for _, k := range []int{n + 1, n + 2, 2 * n, 8, 9, 300, 1 << 16} {
			if k <= n {
				continue
			}
			check(t, []row{
				{"too long", slices.Repeat(line(7), k), n, all(9), bad(api.ErrForm)},
				{"too long, of wrong ones", slices.Repeat(line(top+1), k), n, all(9), bad(api.ErrForm)},
			})
		}
	}
}

// P13.1: one that is no vector, in l at each place or as v, in each of its numbers; also the one that would slide out.
func TestWrongVectors(t *testing.T) {
	list := []api.Vec{v3(5, 1, 9), v3(2, 7, 3), v3(8, 4, 6), v3(0, -1, -2), v3(top, -top, 0), all(4), v3(1, 2, 3)}
	for _, n := range sizes() {
		for k := range n + 1 {
			l := list[:k]
			for _, wrong := range wrongVectors(all(9)) {
				check(t, []row{{"no vector", l, n, wrong, bad(api.ErrForm)}})
			}
			for place := range k {
				for _, wrong := range wrongVectors(l[place]) {
					made := slices.Clone(l)
					made[place] = wrong
					check(t, []row{
						{"none of l's", made, n, all(9), bad(api.ErrForm)},
						{"none at all", made, n, wrong, bad(api.ErrForm)},
						{"none of l's, no n", made, n + 1, all(9), bad(api.ErrForm)},
					})
				}
			}
		}
	}
}

// P13.1: nothing that is handed in is changed, by right calls and wrong ones: neither l nor what lies behind it in its memory.
func TestNothingChanged(t *testing.T) {
	memory := []api.Vec{v3(9, -9, 1), v3(3, 3, 3), v3(7, -7, 2), v3(1, 1, 1), v3(5, -5, 3), v3(2, 2, 2), v3(8, -8, 4), v3(6, 6, 6), v3(4, 4, 4)}
	for _, size := range []int{0, 1, 2, 3, 4, 5, 6, 7, 8} {
		for k := range len(memory) + 1 {
			for _, v := range []api.Vec{all(0), v3(-100, 100, 0), all(top), all(top + 1)} {
				copied := slices.Clone(memory)
				first, again := taken(copied[:k], size, v), taken(copied[:k], size, v)
				if !first.isAs(again) || !first.isAs(wantTake(memory[:k], size, v)) {
					t.Fatalf("Take(%v, %d, %v): %v, then %v", memory[:k], size, v, first, again)
				}
				spoil(first.window)
				if !slices.Equal(copied, memory) {
					t.Fatalf("Take(%v, %d, %v): its memory is %v", memory[:k], size, v, copied)
				}
			}
		}
	}
}

// spoil writes over a list and over its spare room.
func spoil(list []api.Vec) {
	list = list[:cap(list)]
	for i := range list {
		list[i] = all(-77)
	}
}

// P13.1: what is told is new memory each time: whoever writes into it changes neither another answer nor l.
func TestNewMemory(t *testing.T) {
	for _, n := range sizes() {
		for k := range n + 1 {
			l := line(9, 3, 7, 1, 5, 2, 8)[:k]
			first, other := taken(l, n, all(4)), taken(l, n, all(4))
			spoil(first.window)
			if want := wantTake(l, n, all(4)); !other.isAs(want) {
				t.Errorf("n %d, of %v: %v, not %v, as another one was written into", n, l, other, want)
			}
			third := taken(other.window, n, all(6))
			want := wantTake(slices.Clone(other.window), n, all(6))
			spoil(other.window)
			if !third.isAs(want) {
				t.Errorf("n %d: %v, not %v, as the window ahead was written into", n, third, want)
			}
		}
	}
}

// someWord is at the edges and between, of all lengths; small ones are often equal.
func someWord(source *rand.Rand) int64 {
	edges := []int64{0, 1, 2, 3, 1 << 31, 1 << 32, 1 << 44, top - 1, top}
	v := source.Int63() >> (18 + source.Intn(46))
	if source.Intn(3) == 0 {
		v = edges[source.Intn(len(edges))]
	}
	if source.Intn(2) == 0 {
		return -v
	}
	return v
}

func someVector(source *rand.Rand) api.Vec {
	return v3(someWord(source), someWord(source), someWord(source))
}

// isOf tells whether v is number i of one of the list.
func isOf(list []api.Vec, i int, v int64) bool {
	return slices.ContainsFunc(list, func(a api.Vec) bool { return *numbers(&a)[i] == v })
}

// P13.1, P13.2: windows of all kinds, right and wrong, held against what the document says.
func TestExactly(t *testing.T) {
	source := rand.New(rand.NewSource(13))
	wrong := 0
	for range 40000 {
		n := sizes()[source.Intn(4)]
		var l []api.Vec
		for range source.Intn(n + 1) {
			l = append(l, someVector(source))
		}
		v := someVector(source)
		switch source.Intn(30) {
		case 0:
			n = wrongSizes()[source.Intn(len(wrongSizes()))]
		case 1:
			v = wrongVectors(v)[source.Intn(27)]
		case 2:
			l = append(l, wrongVectors(v)[source.Intn(27)])
			source.Shuffle(len(l), func(i, j int) { l[i], l[j] = l[j], l[i] })
		}
		want, got := wantTake(l, n, v), taken(l, n, v)
		if !got.isAs(want) {
			t.Fatalf("Take(%v, %d, %v): %v, not %v", l, n, v, got, want)
		}
		if want.e != api.OK {
			wrong++
			continue
		}
		for i, number := range numbers(&got.m) {
			if !isOf(got.window, i, *number) {
				t.Fatalf("Take(%v, %d, %v): %v is none of the window's", l, n, v, got)
			}
		}
	}
	if wrong < 2000 {
		t.Errorf("only %d wrong ones", wrong)
	}
}
