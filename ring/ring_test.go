package ring_test

import (
	"math"
	"math/rand"
	"runtime"
	"slices"
	"strconv"
	"testing"
	"weak"

	"gimbal/api"
	"gimbal/ring"
)

// made is a ring of that capacity, with xs pushed.
func made[T any](t *testing.T, capacity int, xs ...T) *ring.Ring[T] {
	t.Helper()
	r, e := ring.New[T](capacity)
	if e != api.OK || r == nil {
		t.Fatalf("New(%d): %v, %v", capacity, r, e)
	}
	for _, x := range xs {
		r.Push(x)
	}
	return r
}

// wantPush, wantPop and wantAt call, and hold the answer against what is wanted: of none a zero value and false.
func wantPush[T comparable](t *testing.T, r *ring.Ring[T], x, want T, full bool) {
	t.Helper()
	if got, dropped := r.Push(x); got != want || dropped != full {
		t.Fatalf("Push(%v): %v, %v; want %v, %v", x, got, dropped, want, full)
	}
}

func wantPop[T comparable](t *testing.T, r *ring.Ring[T], want T, there bool) {
	t.Helper()
	if got, ok := r.Pop(); got != want || ok != there {
		t.Fatalf("Pop: %v, %v; want %v, %v", got, ok, want, there)
	}
}

func wantAt[T comparable](t *testing.T, r *ring.Ring[T], i int, want T, there bool) {
	t.Helper()
	if got, ok := r.At(i); got != want || ok != there {
		t.Fatalf("At(%d): %v, %v; want %v, %v", i, got, ok, want, there)
	}
}

// wantAll asks the ring in every way that changes nothing.
func wantAll[T comparable](t *testing.T, r *ring.Ring[T], want ...T) {
	t.Helper()
	if r.Len() != len(want) {
		t.Fatalf("Len: %d; want %d", r.Len(), len(want))
	}
	wantSeen(t, r.All(), want...)
	var zero T
	for i, x := range want {
		wantAt(t, r, i, x, true)
	}
	for _, i := range []int{-1, -r.Cap(), math.MinInt, len(want), r.Cap(), len(want) + r.Cap(), math.MaxInt} {
		wantAt(t, r, i, zero, false)
	}
}

// wantSeen goes over all that an iterator tells.
func wantSeen[T comparable](t *testing.T, all func(func(int, T) bool), want ...T) {
	t.Helper()
	var got []T
	for i, x := range all {
		if i != len(got) {
			t.Fatalf("All: %d where %d is due", i, len(got))
		}
		got = append(got, x)
	}
	if !slices.Equal(got, want) {
		t.Fatalf("All: %v; want %v", got, want)
	}
}

// count is 0, 1 .. n - 1.
func count(n int) []int {
	list := make([]int, n)
	for i := range list {
		list[i] = i
	}
	return list
}

func TestNewCapacities(t *testing.T) {
	for n := 1; n <= api.MaxRing; n++ {
		r := made[int](t, n)
		if r.Cap() != n {
			t.Errorf("New(%d): a capacity of %d", n, r.Cap())
		}
		wantAll(t, r)
		wantPop(t, r, 0, false)
	}
}

func TestNewWrongCapacities(t *testing.T) {
	for _, n := range []int{0, -1, -api.MaxRing, math.MinInt, api.MaxRing + 1, 2 * api.MaxRing, 1 << 32, math.MaxInt} {
		if r, e := ring.New[string](n); r != nil || e != api.ErrForm {
			t.Errorf("New(%d): %v, %v", n, r, e)
		}
	}
}

// TestExample is that of the chapter.
func TestExample(t *testing.T) {
	r := made[int](t, 2)
	wantPush(t, r, 1, 0, false)
	wantPush(t, r, 2, 0, false)
	wantPush(t, r, 3, 1, true)
	wantPop(t, r, 2, true)
	wantAll(t, r, 3)
}

func TestCapacityOne(t *testing.T) {
	r := made[string](t, 1)
	wantPush(t, r, "a", "", false)
	wantPush(t, r, "b", "a", true)
	wantPush(t, r, "c", "b", true)
	wantAll(t, r, "c")
	wantPop(t, r, "c", true)
	wantPop(t, r, "", false)
	wantAll(t, r)
	wantPush(t, r, "d", "", false)
	wantAll(t, r, "d")
}

// TestFullAgain fills the greatest ring from each place of its own, and drops all of it.
func TestFullAgain(t *testing.T) {
	const n = api.MaxRing
	for shift := range n {
		r := made[int](t, n)
		for range shift {
			wantPush(t, r, -1, 0, false)
			wantPop(t, r, -1, true)
		}
		for k := range n {
			wantPush(t, r, k, 0, false)
		}
		wantAll(t, r, count(n)...)
		for k := range n {
			wantPush(t, r, n+k, k, true)
		}
		for k := range n {
			wantPop(t, r, n+k, true)
		}
		wantPop(t, r, 0, false)
	}
}

func TestLenAndCap(t *testing.T) {
	r := made[int](t, 5)
	for k := range 12 {
		r.Push(k)
		if r.Len() != min(k+1, 5) || r.Cap() != 5 {
			t.Errorf("behind %d pushes: %d of %d", k+1, r.Len(), r.Cap())
		}
	}
	for k := range 7 {
		r.Pop()
		if r.Len() != max(4-k, 0) || r.Cap() != 5 {
			t.Errorf("behind %d pops: %d of %d", k+1, r.Len(), r.Cap())
		}
	}
}

func TestClear(t *testing.T) {
	for n := 0; n <= 7; n++ {
		r := made(t, 4, count(n)...)
		r.Clear()
		wantAll(t, r)
		wantPop(t, r, 0, false)
		r.Clear()
		if r.Len() != 0 || r.Cap() != 4 {
			t.Errorf("cleared behind %d: %d of %d", n, r.Len(), r.Cap())
		}
		for k := 10; k < 14; k++ {
			wantPush(t, r, k, 0, false)
		}
		wantAll(t, r, 10, 11, 12, 13)
		wantPush(t, r, 14, 10, true)
		wantAll(t, r, 11, 12, 13, 14)
	}
}

// TestZeroValues: a zero value is a thing as any other.
func TestZeroValues(t *testing.T) {
	r := made[error](t, 2)
	wantPush(t, r, nil, nil, false)
	wantPush(t, r, error(api.ErrFull), nil, false)
	wantPush(t, r, nil, nil, true)
	wantAll(t, r, error(api.ErrFull), nil)
	wantPop(t, r, error(api.ErrFull), true)
	wantPop(t, r, nil, true)
	wantPop(t, r, nil, false)
}

func TestRingsApart(t *testing.T) {
	a, b := made(t, 3, 1, 2), made(t, 3, 7)
	a.Push(3)
	wantPop(t, b, 7, true)
	b.Clear()
	wantAll(t, a, 1, 2, 3)
	wantAll(t, b)
}

// TestUnmade: a ring that New has not made holds nothing, and calls of it end.
func TestUnmade(t *testing.T) {
	var r ring.Ring[int]
	wantPush(t, &r, 1, 0, false)
	r.Clear()
	wantPop(t, &r, 0, false)
	wantAll(t, &r)
}

func TestAllOfNone(t *testing.T) {
	for _, r := range []*ring.Ring[int]{made[int](t, 1), made[int](t, api.MaxRing)} {
		for i, x := range r.All() {
			t.Errorf("%d, %d", i, x)
		}
	}
}

func TestAllLeftEarly(t *testing.T) {
	r := made(t, 4, count(6)...)
	for last := range 4 {
		n := 0
		for i, x := range r.All() {
			n++
			if x != i+2 {
				t.Errorf("%d: %d", i, x)
			}
			if i == last {
				break
			}
		}
		if n != last+1 {
			t.Errorf("left at %d: %d of them", last, n)
		}
	}
	wantAll(t, r, 2, 3, 4, 5)
}

// TestAllBegunTwice: each time the things that are there then, not those that were there when All was asked.
func TestAllBegunTwice(t *testing.T) {
	r := made[int](t, 3)
	all := r.All()
	wantSeen(t, all)
	r.Push(1)
	r.Push(2)
	wantSeen(t, all, 1, 2)
	wantSeen(t, all, 1, 2)
	r.Push(3)
	r.Push(4)
	wantSeen(t, all, 2, 3, 4)
	r.Pop()
	wantSeen(t, all, 3, 4)
	for i := range all {
		wantSeen(t, all, 3, 4)
		if i == 0 {
			break
		}
	}
	r.Clear()
	wantSeen(t, all)
}

// TestAllWhileChanged: what is done to the ring on the way is not to be seen there, and it is done.
func TestAllWhileChanged(t *testing.T) {
	whole := []int{3, 4, 5, 6}
	tests := []struct {
		name string
		do   func(r *ring.Ring[int], i int)
		want []int
	}{
		{"pushed", func(r *ring.Ring[int], i int) { r.Push(10 + i) }, []int{10, 11, 12, 13}},
		{"pushed twice", func(r *ring.Ring[int], i int) { r.Push(10 + i); r.Push(20 + i) }, []int{12, 22, 13, 23}},
		{"taken", func(r *ring.Ring[int], i int) { r.Pop() }, nil},
		{"taken and pushed", func(r *ring.Ring[int], i int) { r.Pop(); r.Push(10 + i) }, []int{10, 11, 12, 13}},
		{"cleared", func(r *ring.Ring[int], i int) { r.Clear() }, nil},
		{"cleared and pushed", func(r *ring.Ring[int], i int) { r.Clear(); r.Push(10 + i) }, []int{13}},
	}
	for _, test := range tests {
		r := made(t, 4, count(7)...)
		var got []int
		for i, x := range r.All() {
			test.do(r, i)
			got = append(got, x)
		}
		if !slices.Equal(got, whole) {
			t.Errorf("%s: %v", test.name, got)
		}
		wantAll(t, r, test.want...)
	}
}

// TestAllWhileItGrows: a ring with room does not show what is pushed on the way.
func TestAllWhileItGrows(t *testing.T) {
	r := made(t, api.MaxRing, 1, 2)
	n := 0
	for range r.All() {
		r.Push(3)
		n++
	}
	if n != 2 {
		t.Errorf("%d of 2", n)
	}
	wantAll(t, r, 1, 2, 3, 3)
}

// held is a ring beside what the document says of it, told by a plain list.
type held[T comparable] struct {
	r    *ring.Ring[T]
	list []T
	in   []T // all that was pushed
	out  []T // all that left it, dropped or taken
}

func (h *held[T]) push(t *testing.T, x T) {
	t.Helper()
	var first T
	full := len(h.list) == h.r.Cap()
	if full {
		first, h.list = h.list[0], h.list[1:]
		h.out = append(h.out, first)
	}
	wantPush(t, h.r, x, first, full)
	h.list = append(h.list, x)
	h.in = append(h.in, x)
}

func (h *held[T]) pop(t *testing.T) {
	t.Helper()
	var first T
	there := len(h.list) > 0
	if there {
		first, h.list = h.list[0], h.list[1:]
		h.out = append(h.out, first)
	}
	wantPop(t, h.r, first, there)
}

func (h *held[T]) clear() {
	h.r.Clear()
	h.out = append(h.out, h.list...)
	h.list = nil
}

// walk does steps to rings of several capacities; thing tells the k-th thing.
func walk[T comparable](t *testing.T, thing func(k int) T) {
	t.Helper()
	for _, capacity := range []int{1, 2, 3, 7, 64, api.MaxRing - 1, api.MaxRing} {
		rnd := rand.New(rand.NewSource(int64(capacity)))
		h := &held[T]{r: made[T](t, capacity)}
		for range 40 {
			pushes := rnd.Intn(2) == 0 // of one kind mostly, so that it fills and empties
			for range rnd.Intn(2*capacity + 2) {
				if pushes == (rnd.Intn(8) > 0) {
					h.push(t, thing(len(h.in)))
				} else {
					h.pop(t)
				}
			}
			if rnd.Intn(10) == 0 {
				h.clear()
			}
			wantAll(t, h.r, h.list...)
		}
		if all := slices.Concat(h.out, h.list); !slices.Equal(all, h.in) {
			t.Fatalf("capacity %d: what left and what stays is not what was pushed, in order", capacity)
		}
	}
}

func TestWalks(t *testing.T) {
	type row struct {
		name string
		at   [2]int64
	}
	t.Run("numbers", func(t *testing.T) { walk(t, func(k int) int { return k + 1 }) })
	t.Run("texts", func(t *testing.T) { walk(t, func(k int) string { return "text " + strconv.Itoa(k) }) })
	t.Run("structs", func(t *testing.T) {
		walk(t, func(k int) row { return row{strconv.Itoa(k), [2]int64{int64(k), -int64(k)}} })
	})
	t.Run("timers", func(t *testing.T) { walk(t, func(k int) api.Timer { return api.Timer{ID: k, At: int64(k) << 20} }) })
}

// TestInOrder: what is pushed comes out in order, and what was dropped came first, whatever the capacity.
func TestInOrder(t *testing.T) {
	const pushed = 3 * api.MaxRing
	for capacity := 1; capacity <= api.MaxRing; capacity++ {
		r := made[int](t, capacity)
		var out []int
		for k := range pushed {
			if x, dropped := r.Push(k); dropped {
				out = append(out, x)
			}
		}
		for x, there := r.Pop(); there; x, there = r.Pop() {
			out = append(out, x)
		}
		if !slices.Equal(out, count(pushed)) {
			t.Errorf("capacity %d: %v", capacity, out)
		}
	}
}

// TestLetsGo: what left the ring is kept alive by it no more.
func TestLetsGo(t *testing.T) {
	type heavy struct{ words [64]int64 }
	r := made[*heavy](t, 2)
	var gone []weak.Pointer[heavy]
	for range 4 {
		x := &heavy{}
		gone = append(gone, weak.Make(x))
		r.Push(x)
	}
	r.Pop()
	r.Clear()
	r.Push(nil)
	runtime.GC()
	for i, x := range gone {
		if x.Value() != nil {
			t.Errorf("thing %d is kept", i)
		}
	}
	runtime.KeepAlive(r)
}
