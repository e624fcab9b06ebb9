package motion

import "testing"

// lasts is after how many windows that did not move a ring has forgotten one that did.
func lasts[B uint8 | uint16 | uint32 | uint64]() int {
	w, still := windows[B]{}.push(true), 0
	for ; w.count() > 0; still++ {
		w = w.push(false)
	}
	return still
}

// P21.1: "modulo 256" is the room of a byte: a ring of bits keeps as many windows as its kind has room for, and counts them all.
func TestWindows(t *testing.T) {
	for _, test := range []struct{ got, want int }{{lasts[uint8](), 8}, {lasts[uint16](), 16}, {lasts[uint32](), 32}, {lasts[uint64](), 64}} {
		if test.got != test.want {
			t.Errorf("%d windows, not %d", test.got, test.want)
		}
	}
	w := windows[uint64]{}
	for i := range 100 {
		if want := min(i, 64); w.count() != want {
			t.Errorf("behind %d that moved: %d, not %d", i, w.count(), want)
		}
		w = w.push(true)
	}
}
