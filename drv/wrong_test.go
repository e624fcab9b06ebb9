package drv_test

import (
	"math"
	"testing"

	"gimbal/api"
	"gimbal/drv"
)

// far is numbers that lie outside whatever the bounds.
func far(near ...int) []int {
	return append(near, 1<<32, 1<<32+1, -1<<32, math.MinInt, math.MaxInt)
}

// wrongDrivers is what is no driver, each for one reason.
func wrongDrivers() []api.Drv {
	var all []api.Drv
	add := func(state int, change func(d *api.Drv, v int), values ...int) {
		for _, v := range values {
			d := in(state)
			change(&d, v)
			all = append(all, d)
		}
	}
	for state := range lastState + 1 {
		add(state, func(d *api.Drv, v int) { d.Addr = v }, far(-1, 128, 255, 256)...)
		add(state, func(d *api.Drv, v int) { d.ID = v }, far(-1, 256, 256+49)...)
		add(state, func(d *api.Drv, v int) { d.Period = v }, far(0, -1, 251, 255, 256, 257)...)
		add(state, func(d *api.Drv, v int) { d.Fails = v }, far(-1, api.MaxRetry, api.MaxRetry+1)...)
		add(state, func(d *api.Drv, v int) { d.Bad = v }, -1, math.MinInt, api.MaxClock+1, math.MaxInt)
		left := far(-1, 1, 2, api.HwQueue, api.HwQueue+1)
		if state == api.DrvBurst {
			left = far(-1, 0, api.HwQueue+1, 32)
		}
		add(state, func(d *api.Drv, v int) { d.Left = v }, left...)
	}
	add(api.DrvOff, func(d *api.Drv, v int) { d.State = v }, far(-1, lastState+1, lastState+2, 256)...)
	return append(all, api.Drv{})
}

// wantWrong: each call but New tells ErrForm of what is no driver, and zero values beside it.
func wantWrong(t *testing.T, d api.Drv) {
	t.Helper()
	if e := drv.Check(d); e != api.ErrForm {
		t.Errorf("Check(%+v): %v", d, e)
	}
	for _, want := range bools() {
		if next, e := drv.Set(d, want, 20); e != api.ErrForm || next != (api.Drv{}) {
			t.Errorf("Set(%+v): %+v, %v", d, next, e)
		}
	}
	if tx, there, e := drv.Next(d); e != api.ErrForm || there || !sameTx(tx, api.Tx{}) {
		t.Errorf("Next(%+v): %+v, %v, %v", d, tx, there, e)
	}
	wantNotTaken(t, d)
}

// wantNotTaken: Take tells ErrForm of any answer.
func wantNotTaken(t *testing.T, d api.Drv) {
	t.Helper()
	for _, a := range []api.Answer{{}, refused(), good(), good(0), good(49), good(packed(raws(2)...)...), {Status: api.StatusStalled, Data: []byte{1}}} {
		next, told, failed, e := drv.Take(d, a)
		if e != api.ErrForm || failed || len(told) != 0 || next != (api.Drv{}) {
			t.Errorf("Take(%+v, %+v): %+v, %+v, %v, %v", d, a, next, told, failed, e)
		}
	}
}

func TestWrongDrivers(t *testing.T) {
	for _, d := range wrongDrivers() {
		wantWrong(t, d)
	}
}

// TestWrongNew: each that is none, beside one that is.
func TestWrongNew(t *testing.T) {
	for _, addr := range far(-1, 128, 255, 256) {
		for _, id := range []int{0, 49, 255, -1, 256} {
			if d, e := drv.New(addr, id); e != api.ErrForm || d != (api.Drv{}) {
				t.Errorf("New(%d, %d): %+v, %v", addr, id, d, e)
			}
		}
	}
	for _, id := range far(-1, 256, 257) {
		for _, addr := range []int{0, 16, 127, -1, 128} {
			if d, e := drv.New(addr, id); e != api.ErrForm || d != (api.Drv{}) {
				t.Errorf("New(%d, %d): %+v, %v", addr, id, d, e)
			}
		}
	}
}

// TestWrongPeriods: in each state, wanted or not.
func TestWrongPeriods(t *testing.T) {
	for state := range lastState + 1 {
		for _, want := range bools() {
			for _, period := range far(0, -1, 251, 252, 256, 257) {
				if next, e := drv.Set(in(state), want, period); e != api.ErrForm || next != (api.Drv{}) {
					t.Errorf("Set(%+v, %v, %d): %+v, %v", in(state), want, period, next, e)
				}
			}
			for _, period := range []int{1, 2, 249, 250} {
				if d := set(t, in(state), want, period); d.Want != want || d.Period != period {
					t.Errorf("Set(%+v, %v, %d): %+v", in(state), want, period, d)
				}
			}
		}
	}
}

// TestNothingAsked: an answer where there is no transaction.
func TestNothingAsked(t *testing.T) {
	for _, state := range []int{api.DrvOff, api.DrvFailed} {
		for _, want := range bools() {
			for fails := range api.MaxRetry {
				d := in(state)
				d.Want, d.Fails, d.Tried = want, fails, want
				wantNotTaken(t, d)
			}
		}
	}
}

// TestRightDrivers: each field at its bounds, in each state.
func TestRightDrivers(t *testing.T) {
	for state := range lastState + 1 {
		for _, change := range []func(d *api.Drv){
			func(d *api.Drv) { d.Addr = 0 }, func(d *api.Drv) { d.Addr = 127 },
			func(d *api.Drv) { d.ID = 0 }, func(d *api.Drv) { d.ID = 255 },
			func(d *api.Drv) { d.Period = 1 }, func(d *api.Drv) { d.Period = 250 },
			func(d *api.Drv) { d.Fails = api.MaxRetry - 1 },
			func(d *api.Drv) { d.Bad = api.MaxClock }, func(d *api.Drv) { d.Bad = 0 },
			func(d *api.Drv) { d.Want, d.Tried = false, true },
		} {
			d := in(state)
			change(&d)
			if e := drv.Check(d); e != api.OK {
				t.Errorf("Check(%+v): %v", d, e)
			}
		}
	}
	for left := 1; left <= api.HwQueue; left++ {
		d := in(api.DrvBurst)
		d.Left = left
		if e := drv.Check(d); e != api.OK {
			t.Errorf("Check(%+v): %v", d, e)
		}
	}
}
