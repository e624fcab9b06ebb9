package wheel

import (
	"math/rand"
	"runtime"
	"slices"
	"testing"
	"weak"
)

// text is ranked as texts are.
type text string

func (a text) ahead(b text) bool {
	return a < b
}

// wantHeap looks at each thing and its parent.
func wantHeap[T ranked[T]](t *testing.T, h *heap[T], n int) {
	t.Helper()
	if len(h.things) != n {
		t.Fatalf("%d things; want %d", len(h.things), n)
	}
	for i := 1; i < n; i++ {
		if h.things[i].ahead(h.things[(i-1)/2]) {
			t.Fatalf("the thing at %d comes ahead of its parent: %v", i, h.things)
		}
	}
}

// TestHeapOfTexts drops things at any place.
func TestHeapOfTexts(t *testing.T) {
	rnd := rand.New(rand.NewSource(6))
	for n := range 40 {
		var h heap[text]
		var there []text
		for k := range n {
			x := text(rune('a' + rnd.Intn(26)))
			h.push(x)
			there = append(there, x)
			wantHeap(t, &h, k+1)
		}
		for k := n; k > 0; k-- {
			place := rnd.Intn(k)
			want := h.things[place]
			if got := h.drop(place); got != want {
				t.Fatalf("drop(%d): %q; want %q", place, got, want)
			}
			i := slices.Index(there, want)
			there = slices.Delete(there, i, i+1)
			wantHeap(t, &h, k-1)
			left := slices.Clone(h.things)
			slices.Sort(left)
			slices.Sort(there)
			if !slices.Equal(left, there) {
				t.Fatalf("left: %q; want %q", left, there)
			}
		}
	}
}

// heavy is a thing behind a pointer.
type heavy struct {
	rank  int
	words [64]int64
}

func (a *heavy) ahead(b *heavy) bool {
	return a.rank < b.rank
}

// TestHeapLetsGo: what left the heap is kept alive by it no more.
func TestHeapLetsGo(t *testing.T) {
	var h heap[*heavy]
	var gone []weak.Pointer[heavy]
	for rank := range 9 {
		x := &heavy{rank: rank}
		gone = append(gone, weak.Make(x))
		h.push(x)
	}
	for len(h.things) > 0 {
		h.drop(len(h.things) / 2)
	}
	runtime.GC()
	for i, x := range gone {
		if x.Value() != nil {
			t.Errorf("thing %d is kept", i)
		}
	}
	runtime.KeepAlive(h.things)
}
