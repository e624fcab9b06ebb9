package drv_test

import (
	"testing"

	"gimbal/api"
)

// TestSet: each state, wanted as it was, with another period, and not.
func TestSet(t *testing.T) {
	tests := []struct{ state, same, other, idle int }{
		{api.DrvOff, api.DrvID, api.DrvID, api.DrvOff},
		{api.DrvID, api.DrvID, api.DrvID, api.DrvStop},
		{api.DrvPeriod, api.DrvPeriod, api.DrvPeriod, api.DrvStop},
		{api.DrvStart, api.DrvStart, api.DrvPeriod, api.DrvStop},
		{api.DrvOn, api.DrvOn, api.DrvPeriod, api.DrvStop},
		{api.DrvBurst, api.DrvBurst, api.DrvPeriod, api.DrvStop},
		{api.DrvStop, api.DrvID, api.DrvID, api.DrvStop},
		{api.DrvReset, api.DrvReset, api.DrvReset, api.DrvReset},
		{api.DrvFailed, api.DrvFailed, api.DrvFailed, api.DrvFailed},
	}
	if len(tests) != lastState+1 {
		t.Fatal(len(tests))
	}
	for _, test := range tests {
		for _, was := range bools() {
			for _, tried := range bools() {
				for fails := range api.MaxRetry {
					d := in(test.state)
					d.Want, d.Tried, d.Fails, d.Bad = was, tried, fails, 5
					wantSet(t, d, true, 20, test.same)
					wantSet(t, d, false, 20, test.idle)
					for _, period := range []int{1, 19, 21, 250} {
						wantSet(t, d, true, period, test.other)
						wantSet(t, d, false, period, test.idle)
					}
				}
			}
		}
	}
}

// wantSet: the state becomes that one; Fails and Left are kept only if it is no other one; what else there is stays.
func wantSet(t *testing.T, d api.Drv, want bool, period, state int) {
	t.Helper()
	next := d
	next.Want, next.Period = want, period
	if state != d.State {
		next.State, next.Fails, next.Left = state, 0, 0
	}
	if got := set(t, d, want, period); got != next {
		t.Fatalf("Set(%+v, %v, %d): %+v; want %+v", d, want, period, got, next)
	}
}

// TestSetTwice: the same again changes nothing more.
func TestSetTwice(t *testing.T) {
	for state := range lastState + 1 {
		for _, want := range bools() {
			for _, period := range []int{1, 20, 250} {
				d := in(state)
				d.Fails = 2
				once := set(t, d, want, period)
				if again := set(t, once, want, period); again != once {
					t.Errorf("Set(%+v, %v, %d): %+v, then %+v", d, want, period, once, again)
				}
			}
		}
	}
}

// TestPeriodOnTheWay: the last one that was set is the one that is written.
func TestPeriodOnTheWay(t *testing.T) {
	d := set(t, made(t, 16, 49), true, 1)
	d = set(t, d, true, 250)
	d = take(t, d, good(49))
	wantNext(t, d, api.Tx{Addr: 16, Reg: 2, Write: []byte{250}})
	d = set(t, d, true, 7)
	wantNext(t, d, api.Tx{Addr: 16, Reg: 2, Write: []byte{7}})
	d = take(t, d, good())
	d = set(t, d, true, 8)
	wantNext(t, d, api.Tx{Addr: 16, Reg: 2, Write: []byte{8}})
	d = take(t, take(t, d, good()), good())
	d = set(t, take(t, d, good(3)), true, 9)
	wantNext(t, d, api.Tx{Addr: 16, Reg: 2, Write: []byte{9}})
	if d.Left != 0 {
		t.Errorf("%+v", d)
	}
}

// TestWantedDuringReset: which way it goes behind the reset is told by what is wanted then.
func TestWantedDuringReset(t *testing.T) {
	for _, want := range bools() {
		d := in(api.DrvReset)
		d.Want = !want
		d = take(t, set(t, d, want, 3), good())
		next := api.Drv{Addr: 16, ID: 49, Want: want, Period: 3, State: api.DrvStop, Tried: true}
		if want {
			next.State = api.DrvID
		}
		if d != next {
			t.Errorf("%+v; want %+v", d, next)
		}
	}
}

// TestTriedStays: that a reset was tried is forgotten only when it is on, or off.
func TestTriedStays(t *testing.T) {
	d := take(t, in(api.DrvReset), good())
	d = take(t, d, good(49))
	d = take(t, d, good())
	if !d.Tried || d.State != api.DrvStart {
		t.Fatalf("%+v", d)
	}
	d = set(t, set(t, d, false, 20), true, 20)
	if !d.Tried || d.State != api.DrvID {
		t.Fatalf("%+v", d)
	}
	on := take(t, take(t, take(t, d, good(49)), good()), good())
	off := take(t, set(t, d, false, 20), good())
	if on.Tried || on.State != api.DrvOn || off.Tried || off.State != api.DrvOff {
		t.Errorf("%+v, %+v", on, off)
	}
}
