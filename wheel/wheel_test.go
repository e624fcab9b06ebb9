package wheel_test

import (
	"cmp"
	"math"
	"math/rand"
	"slices"
	"testing"

	"gimbal/api"
	"gimbal/wheel"
)

const last = api.MaxTimer - 1

// tm is a timer, in short.
func tm(id int, at int64) api.Timer {
	return api.Timer{ID: id, At: at}
}

// made is a wheel with those timers set, in that order.
func made(t *testing.T, timers ...api.Timer) *wheel.Wheel {
	t.Helper()
	w := wheel.New()
	if w == nil {
		t.Fatal("New: nil")
	}
	for _, x := range timers {
		wantSet(t, w, x.ID, x.At, api.OK)
	}
	return w
}

func wantSet(t *testing.T, w *wheel.Wheel, id int, at int64, want api.Errno) {
	t.Helper()
	if got := w.Set(id, at); got != want {
		t.Fatalf("Set(%d, %d): %v; want %v", id, at, got, want)
	}
}

func wantCancel(t *testing.T, w *wheel.Wheel, id int, want api.Errno) {
	t.Helper()
	if got := w.Cancel(id); got != want {
		t.Fatalf("Cancel(%d): %v; want %v", id, got, want)
	}
}

func wantTake(t *testing.T, w *wheel.Wheel, now int64, want ...api.Timer) {
	t.Helper()
	if got := w.Take(now); !slices.Equal(got, want) {
		t.Fatalf("Take(%d): %v; want %v", now, got, want)
	}
}

// wantAll asks the wheel in every way that changes nothing.
func wantAll(t *testing.T, w *wheel.Wheel, want ...api.Timer) {
	t.Helper()
	if got := w.All(); !slices.Equal(got, want) {
		t.Fatalf("All: %v; want %v", got, want)
	}
	var at int64
	if len(want) > 0 {
		at = want[0].At
	}
	if got, some := w.Next(); got != at || some != (len(want) > 0) {
		t.Fatalf("Next: %d, %v; want %d, %v", got, some, at, len(want) > 0)
	}
}

// held is a wheel beside what the document says of it: the timers that are set, in the order in which they were.
type held struct {
	w    *wheel.Wheel
	list []api.Timer
}

func (h *held) set(t *testing.T, id int, at int64) {
	t.Helper()
	wantSet(t, h.w, id, at, api.OK)
	h.unset(id)
	h.list = append(h.list, tm(id, at))
}

func (h *held) unset(id int) bool {
	n := len(h.list)
	h.list = slices.DeleteFunc(h.list, func(x api.Timer) bool { return x.ID == id })
	return len(h.list) < n
}

func (h *held) cancel(t *testing.T, id int) {
	t.Helper()
	want := api.ErrNone
	if h.unset(id) {
		want = api.OK
	}
	wantCancel(t, h.w, id, want)
}

// all is by rising at; a sort that is stable leaves the earlier ones of the same at first.
func (h *held) all() []api.Timer {
	list := slices.Clone(h.list)
	slices.SortStableFunc(list, func(a, b api.Timer) int { return cmp.Compare(a.At, b.At) })
	return list
}

func (h *held) take(t *testing.T, now int64) {
	t.Helper()
	due := slices.DeleteFunc(h.all(), func(x api.Timer) bool { return x.At > now })
	wantTake(t, h.w, now, due...)
	h.list = slices.DeleteFunc(h.list, func(x api.Timer) bool { return x.At <= now })
}

// TestExample is that of the chapter.
func TestExample(t *testing.T) {
	w := made(t, tm(3, 10), tm(1, 5), tm(2, 10))
	wantAll(t, w, tm(1, 5), tm(3, 10), tm(2, 10))
	wantTake(t, w, 10, tm(1, 5), tm(3, 10), tm(2, 10))
	wantAll(t, w)
}

// wantEmpty holds a wheel of none against what the document says.
func wantEmpty(t *testing.T, w *wheel.Wheel) {
	t.Helper()
	for _, now := range []int64{math.MinInt64, -1, 0, 1, api.MaxClock, math.MaxInt64} {
		wantTake(t, w, now)
	}
	for id := range api.MaxTimer {
		wantCancel(t, w, id, api.ErrNone)
	}
	wantAll(t, w)
}

func TestEmpty(t *testing.T) {
	w := made(t)
	wantAll(t, w)
	wantEmpty(t, w)
	wantSet(t, w, 5, 7, api.OK)
	wantCancel(t, w, 5, api.OK)
	wantEmpty(t, w)
	wantSet(t, w, 5, 7, api.OK)
	wantTake(t, w, 7, tm(5, 7))
	wantEmpty(t, w)
}

// orders calls do with list in each order.
func orders(list []api.Timer, do func([]api.Timer)) {
	var from func(k int)
	from = func(k int) {
		if k == len(list) {
			do(slices.Clone(list))
			return
		}
		for i := k; i < len(list); i++ {
			list[k], list[i] = list[i], list[k]
			from(k + 1)
			list[k], list[i] = list[i], list[k]
		}
	}
	from(0)
}

// TestAnyOrder sets timers of different and of the same times in each order, and then takes away each of them.
func TestAnyOrder(t *testing.T) {
	orders([]api.Timer{tm(4, 5), tm(0, 5), tm(9, 7), tm(2, 7), tm(last, 7), tm(1, 12)}, func(list []api.Timer) {
		h := held{made(t, list...), list}
		wantAll(t, h.w, h.all()...)
		for _, x := range list {
			rest := held{made(t, list...), slices.Clone(list)}
			rest.cancel(t, x.ID)
			wantAll(t, rest.w, rest.all()...)
			rest.cancel(t, x.ID)
		}
		h.take(t, 12)
		wantEmpty(t, h.w)
	})
}

func TestEdges(t *testing.T) {
	w := made(t, tm(0, api.MaxClock), tm(last, 0))
	wantAll(t, w, tm(last, 0), tm(0, api.MaxClock))
	wantTake(t, w, -1)
	wantTake(t, w, 0, tm(last, 0))
	wantTake(t, w, api.MaxClock-1)
	wantAll(t, w, tm(0, api.MaxClock))
	wantTake(t, w, api.MaxClock, tm(0, api.MaxClock))
	wantAll(t, w)
	w = made(t, tm(0, 0), tm(last, api.MaxClock))
	wantCancel(t, w, 0, api.OK)
	wantAll(t, w, tm(last, api.MaxClock))
	wantCancel(t, w, last, api.OK)
	wantAll(t, w)
}

// TestAllSet sets all timers, by several rules of when.
func TestAllSet(t *testing.T) {
	rules := []func(k int) (int, int64){
		func(k int) (int, int64) { return k, 9 },
		func(k int) (int, int64) { return last - k, 9 },
		func(k int) (int, int64) { return k, int64(k) },
		func(k int) (int, int64) { return k, int64(last - k) },
		func(k int) (int, int64) { return k * 37 % api.MaxTimer, int64(k % 8) },
		func(k int) (int, int64) { return k * 5 % api.MaxTimer, api.MaxClock * int64(k%2) },
	}
	for _, rule := range rules {
		h := held{w: made(t)}
		for range 2 { // and all of them anew
			for k := range api.MaxTimer {
				id, at := rule(k)
				h.set(t, id, at)
				wantAll(t, h.w, h.all()...)
			}
		}
		for _, now := range []int64{-1, 0, 3, 4, 9, api.MaxClock - 1, api.MaxClock} {
			h.take(t, now)
			wantAll(t, h.w, h.all()...)
		}
		wantEmpty(t, h.w)
	}
}

// TestSetAnew: the timer has its new time alone, and stands behind all of that time.
func TestSetAnew(t *testing.T) {
	tests := []struct {
		id   int
		at   int64
		want []api.Timer
	}{
		{1, 10, []api.Timer{tm(0, 5), tm(2, 10), tm(3, 10), tm(1, 10), tm(4, 20)}},                      // the same
		{3, 10, []api.Timer{tm(0, 5), tm(1, 10), tm(2, 10), tm(3, 10), tm(4, 20)}},                      // the same, and it was the last of it
		{2, 5, []api.Timer{tm(0, 5), tm(2, 5), tm(1, 10), tm(3, 10), tm(4, 20)}},                        // earlier, beside another
		{2, 7, []api.Timer{tm(0, 5), tm(2, 7), tm(1, 10), tm(3, 10), tm(4, 20)}},                        // earlier, alone
		{4, 0, []api.Timer{tm(4, 0), tm(0, 5), tm(1, 10), tm(2, 10), tm(3, 10)}},                        // the last becomes the first
		{1, 20, []api.Timer{tm(0, 5), tm(2, 10), tm(3, 10), tm(4, 20), tm(1, 20)}},                      // later, beside another
		{0, 10, []api.Timer{tm(1, 10), tm(2, 10), tm(3, 10), tm(0, 10), tm(4, 20)}},                     // the first, later
		{0, api.MaxClock, []api.Timer{tm(1, 10), tm(2, 10), tm(3, 10), tm(4, 20), tm(0, api.MaxClock)}}, // it becomes the last
	}
	for _, test := range tests {
		w := made(t, tm(0, 5), tm(1, 10), tm(2, 10), tm(3, 10), tm(4, 20))
		wantSet(t, w, test.id, test.at, api.OK)
		wantAll(t, w, test.want...)
		wantTake(t, w, api.MaxClock, test.want...)
		wantAll(t, w)
	}
}

// TestSetThereAndBack: a timer that comes back to its time stands behind all of it.
func TestSetThereAndBack(t *testing.T) {
	w := made(t, tm(1, 10), tm(2, 10), tm(3, 10))
	wantSet(t, w, 1, 30, api.OK)
	wantSet(t, w, 1, 10, api.OK)
	wantAll(t, w, tm(2, 10), tm(3, 10), tm(1, 10))
	wantSet(t, w, 3, 1, api.OK)
	wantSet(t, w, 3, 10, api.OK)
	wantAll(t, w, tm(2, 10), tm(1, 10), tm(3, 10))
	wantTake(t, w, 10, tm(2, 10), tm(1, 10), tm(3, 10))
}

func TestCancelledAndSetAgain(t *testing.T) {
	w := made(t, tm(1, 10), tm(2, 10), tm(3, 5))
	wantCancel(t, w, 1, api.OK)
	wantAll(t, w, tm(3, 5), tm(2, 10))
	wantCancel(t, w, 1, api.ErrNone)
	wantSet(t, w, 1, 10, api.OK)
	wantAll(t, w, tm(3, 5), tm(2, 10), tm(1, 10))
	wantCancel(t, w, 3, api.OK)
	wantAll(t, w, tm(2, 10), tm(1, 10))
	wantSet(t, w, 3, 11, api.OK)
	wantTake(t, w, 10, tm(2, 10), tm(1, 10))
	wantAll(t, w, tm(3, 11))
	wantCancel(t, w, 2, api.ErrNone)
	wantSet(t, w, 2, 11, api.OK)
	wantAll(t, w, tm(3, 11), tm(2, 11))
}

// TestTakeAround: just below, at, and just above a timer's time; and twice.
func TestTakeAround(t *testing.T) {
	for _, at := range []int64{0, 1, 1000, 1 << 31, 1 << 32, api.MaxClock - 1, api.MaxClock} {
		for off := int64(-1); off <= 1; off++ {
			w := made(t, tm(6, at))
			if off < 0 {
				wantTake(t, w, at+off)
				wantAll(t, w, tm(6, at))
				wantTake(t, w, at+off)
				wantTake(t, w, at, tm(6, at))
			} else {
				wantTake(t, w, at+off, tm(6, at))
			}
			wantAll(t, w)
			wantTake(t, w, at+off)
			wantTake(t, w, math.MaxInt64)
			wantEmpty(t, w)
		}
	}
}

// TestTakeAnyTime: of the time nothing is asked.
func TestTakeAnyTime(t *testing.T) {
	list := []api.Timer{tm(8, 0), tm(5, 3), tm(2, api.MaxClock)}
	w := made(t, list...)
	for _, now := range []int64{math.MinInt64, -api.MaxClock, -1} {
		wantTake(t, w, now)
		wantAll(t, w, list...)
	}
	wantTake(t, w, math.MaxInt64, list...)
	wantAll(t, w)
	wantTake(t, made(t, list...), api.MaxClock+1, list...)
}

// TestTakeBackwards: a time that lies ahead of an earlier Take's, and a timer that is set to one.
func TestTakeBackwards(t *testing.T) {
	w := made(t, tm(1, 10), tm(2, 20))
	wantTake(t, w, 10, tm(1, 10))
	wantTake(t, w, 5)
	wantSet(t, w, 1, 3, api.OK)
	wantAll(t, w, tm(1, 3), tm(2, 20))
	wantTake(t, w, 2)
	wantTake(t, w, 20, tm(1, 3), tm(2, 20))
}

func TestWrong(t *testing.T) {
	list := []api.Timer{tm(last, 0), tm(0, 7), tm(5, 7), tm(9, api.MaxClock)}
	ids := []int{-1, -2, -api.MaxTimer, math.MinInt, api.MaxTimer, api.MaxTimer + 1, 1 << 32, 1<<32 + 5, math.MaxInt}
	times := []int64{-1, -2, -api.MaxClock, math.MinInt64, api.MaxClock + 1, 2 * api.MaxClock, math.MaxInt64}
	w := made(t, list...)
	for _, id := range ids {
		for _, at := range append([]int64{0, 7, api.MaxClock}, times...) {
			wantSet(t, w, id, at, api.ErrForm)
		}
		wantCancel(t, w, id, api.ErrForm)
		wantAll(t, w, list...)
	}
	for _, at := range times {
		for _, id := range []int{0, 5, 6, last} { // of one that is set the time stays, and its place
			wantSet(t, w, id, at, api.ErrForm)
		}
		wantAll(t, w, list...)
	}
	for id := range api.MaxTimer {
		if !slices.ContainsFunc(list, func(x api.Timer) bool { return x.ID == id }) {
			wantCancel(t, w, id, api.ErrNone)
		}
	}
	wantAll(t, w, list...)
	wantTake(t, w, api.MaxClock, list...)
	wantEmpty(t, w)
}

// TestAnswersApart: who writes into what was told, or appends to it, changes nothing else.
func TestAnswersApart(t *testing.T) {
	w := made(t, tm(1, 10), tm(2, 10), tm(3, 30))
	for range 2 {
		a, b := w.All(), w.All()
		spoil(a)
		if !slices.Equal(b, []api.Timer{tm(1, 10), tm(2, 10), tm(3, 30)}) {
			t.Errorf("%v", b)
		}
	}
	all := w.All()
	first := w.Take(10)
	spoil(all)
	second := w.Take(30)
	spoil(second)
	if !slices.Equal(first, []api.Timer{tm(1, 10), tm(2, 10)}) {
		t.Errorf("%v", first)
	}
	wantSet(t, w, 4, 40, api.OK)
	spoil(first)
	wantAll(t, w, tm(4, 40))
}

// spoil writes over a list and over its spare room.
func spoil(list []api.Timer) {
	list = list[:cap(list)]
	for i := range list {
		list[i] = tm(-1, -1)
	}
}

func TestWheelsApart(t *testing.T) {
	a, b := made(t, tm(1, 10), tm(2, 20)), made(t, tm(1, 15))
	wantSet(t, a, 3, 5, api.OK)
	wantCancel(t, b, 1, api.OK)
	wantCancel(t, b, 2, api.ErrNone)
	wantAll(t, a, tm(3, 5), tm(1, 10), tm(2, 20))
	wantTake(t, a, 30, tm(3, 5), tm(1, 10), tm(2, 20))
	wantAll(t, b)
}

// TestUnmade: a wheel that New has not made is an empty one.
func TestUnmade(t *testing.T) {
	var w wheel.Wheel
	wantEmpty(t, &w)
	wantSet(t, &w, 2, 8, api.OK)
	wantSet(t, &w, 1, 4, api.OK)
	wantTake(t, &w, 9, tm(1, 4), tm(2, 8))
}

// TestWalks does steps to a wheel and to a plain list; few times of many make the same ones frequent.
func TestWalks(t *testing.T) {
	for seed := range int64(60) {
		rnd := rand.New(rand.NewSource(seed))
		ids, span := 1+rnd.Intn(api.MaxTimer), 1+rnd.Int63n(40)
		if seed%5 == 0 {
			span = api.MaxClock + 1
		}
		h := held{w: made(t)}
		for range 400 {
			switch id := rnd.Intn(ids); rnd.Intn(8) {
			case 0:
				h.cancel(t, id)
			case 1:
				h.take(t, rnd.Int63n(span)/(1+rnd.Int63n(4)))
			default:
				h.set(t, id, rnd.Int63n(span))
			}
			wantAll(t, h.w, h.all()...)
		}
		h.take(t, span)
		wantEmpty(t, h.w)
	}
}

// TestTakenOnceInParts: each timer is taken once, and in two or more parts as in one.
func TestTakenOnceInParts(t *testing.T) {
	for seed := range int64(40) {
		rnd := rand.New(rand.NewSource(seed))
		var list []api.Timer
		for _, id := range rnd.Perm(api.MaxTimer) {
			list = append(list, tm(id, rnd.Int63n(30)))
		}
		whole := made(t, list...).Take(29)
		for cut := int64(-1); cut <= 30; cut++ {
			w := made(t, list...)
			if parts := slices.Concat(w.Take(cut), w.Take(29)); !slices.Equal(parts, whole) {
				t.Fatalf("cut at %d: %v; want %v", cut, parts, whole)
			}
			wantEmpty(t, w)
		}
		var parts []api.Timer
		w := made(t, list...)
		for now := int64(-1); now <= 30; now++ {
			parts = append(parts, w.Take(now)...)
		}
		if !slices.Equal(parts, whole) {
			t.Fatalf("tick by tick: %v; want %v", parts, whole)
		}
		slices.SortFunc(parts, func(a, b api.Timer) int { return a.ID - b.ID })
		slices.SortFunc(list, func(a, b api.Timer) int { return a.ID - b.ID })
		if !slices.Equal(parts, list) {
			t.Fatalf("taken: %v; set: %v", parts, list)
		}
	}
}
