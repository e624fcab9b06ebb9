package drv_test

import (
	"slices"
	"testing"

	"gimbal/api"
)

// fit is a good answer to the driver's transaction; a burst's samples are raws.
func fit(d api.Drv) api.Answer {
	switch d.State {
	case api.DrvID:
		return good(byte(d.ID))
	case api.DrvOn:
		return good(api.HwQueue)
	case api.DrvBurst:
		return good(packed(raws(d.Left)...)...)
	}
	return good()
}

// busy is the states with a transaction.
func busy() []int {
	return []int{api.DrvID, api.DrvPeriod, api.DrvStart, api.DrvOn, api.DrvBurst, api.DrvStop, api.DrvReset}
}

// bools is both, for what is to hold whichever it is.
func bools() []bool {
	return []bool{false, true}
}

// TestGood: what becomes of each state, whatever failed ahead and whether a reset was tried.
func TestGood(t *testing.T) {
	for fails := range api.MaxRetry {
		for _, tried := range bools() {
			for _, want := range bools() {
				from := func(state int) api.Drv {
					d := in(state)
					d.Fails, d.Tried, d.Want, d.Bad = fails, tried, want, 5
					return d
				}
				to := func(state int, tried bool) api.Drv {
					return api.Drv{Addr: 16, ID: 49, Want: want, Period: 20, State: state, Tried: tried, Bad: 5}
				}
				wantTake(t, from(api.DrvID), good(49), to(api.DrvPeriod, tried))
				wantTake(t, from(api.DrvPeriod), good(), to(api.DrvStart, tried))
				wantTake(t, from(api.DrvStart), good(), to(api.DrvOn, false))
				wantTake(t, from(api.DrvOn), good(0), to(api.DrvOn, tried))
				burst := to(api.DrvBurst, tried)
				burst.Left = 7
				wantTake(t, from(api.DrvOn), good(7), burst)
				wantTake(t, from(api.DrvBurst), good(packed(raws(2)...)...), to(api.DrvOn, tried), raws(2)...)
				wantTake(t, from(api.DrvStop), good(), to(api.DrvOff, false))
				behind := api.DrvStop
				if want {
					behind = api.DrvID
				}
				wantTake(t, from(api.DrvReset), good(), to(behind, true))
			}
		}
	}
}

// wrongAnswers is answers that are not good, each for one reason.
func wrongAnswers(d api.Drv) []api.Answer {
	right := fit(d).Data
	var all []api.Answer
	for _, status := range []int{api.StatusNone, api.StatusRefused, api.StatusStalled, -1, 4, 1 << 32, 1<<32 + api.StatusOK} {
		all = append(all, api.Answer{Status: status}, api.Answer{Status: status, Data: right})
	}
	for n := range right {
		all = append(all, good(right[:n]...))
	}
	for _, n := range []int{1, 2, 7, 8, 9, 128, 256, 1 << 16} {
		all = append(all, good(append(slices.Clone(right), make([]byte, n)...)...))
	}
	for x := range 256 {
		if d.State == api.DrvID && x != d.ID || d.State == api.DrvOn && x > api.HwQueue {
			all = append(all, good(byte(x)))
		}
	}
	return all
}

// TestNotGood: each state with each answer that is not good, one failure behind the other.
func TestNotGood(t *testing.T) {
	for _, state := range busy() {
		for _, a := range wrongAnswers(in(state)) {
			for _, tried := range bools() {
				for _, want := range bools() {
					d := in(state)
					d.Tried, d.Want, d.Bad = tried, want, 5
					over := d
					over.Left, over.State = 0, api.DrvReset
					if tried || state == api.DrvReset {
						over.State = api.DrvFailed
					}
					for fails := range api.MaxRetry {
						d.Fails = fails
						next := d
						next.Fails++
						if next.Fails == api.MaxRetry || state == api.DrvReset {
							next = over
						}
						wantTake(t, d, a, next)
					}
				}
			}
		}
	}
}

// TestIdentities: of all bytes its own one alone is good.
func TestIdentities(t *testing.T) {
	for _, id := range []int{0, 1, 49, 127, 128, 254, 255} {
		d := in(api.DrvID)
		d.ID = id
		for x := range 256 {
			next := d
			next.State = api.DrvPeriod
			if x != id {
				next = d
				next.Fails = 1
			}
			wantTake(t, d, good(byte(x)), next)
		}
	}
}

// TestCounts: each one, up to HwQueue and above it.
func TestCounts(t *testing.T) {
	for x := range 256 {
		d := in(api.DrvOn)
		d.Fails = 1
		next := in(api.DrvOn)
		switch {
		case x > api.HwQueue:
			next.Fails = 2
		case x > 0:
			next.State, next.Left = api.DrvBurst, x
		}
		wantTake(t, d, good(byte(x)), next)
	}
}

// TestBursts: of each length, with each one of its samples wrong, with none wrong, and with all.
func TestBursts(t *testing.T) {
	for left := 1; left <= api.HwQueue; left++ {
		d := in(api.DrvBurst)
		d.Left, d.Fails, d.Bad = left, 2, 9
		next := in(api.DrvOn)
		next.Bad = 9
		wantTake(t, d, good(packed(raws(left)...)...), next, raws(left)...)
		next.Bad = 10
		for k := range left {
			for place := range 8 {
				data := packed(raws(left)...)
				data[8*k+place] ^= 0x10
				wantTake(t, d, good(data...), next, slices.Delete(raws(left), k, k+1)...)
			}
		}
		next.Bad = 9 + left
		wantTake(t, d, good(make([]byte, 8*left)...), next)
		blank := make([]byte, 8*left)
		for k := range blank {
			blank[k] = 0xff
		}
		wantTake(t, d, good(blank...), next)
	}
}

// TestSomeBad: every choice of wrong ones among eight samples; those that are right are told in order.
func TestSomeBad(t *testing.T) {
	const n = 8
	for wrong := range 1 << n {
		d := in(api.DrvBurst)
		d.Left = n
		next := in(api.DrvOn)
		data := packed(raws(n)...)
		var right []api.Raw
		for k, r := range raws(n) {
			if wrong>>k&1 == 1 {
				data[8*k+7]++
				next.Bad++
			} else {
				right = append(right, r)
			}
		}
		wantTake(t, d, good(data...), next, right...)
	}
}

// TestSampleBounds: bytes that were written by hand, each number at its bounds.
func TestSampleBounds(t *testing.T) {
	d := in(api.DrvBurst)
	d.Left = 5
	data := []byte{
		0, 0, 0, 0, 0, 0, 0, 0x5a,
		0x80, 0, 0x7f, 0xff, 0xff, 0xff, 0x80, 0xda,
		0x7f, 0xff, 0xff, 0xff, 0x80, 0, 0x7f, 0x25,
		0xff, 0xff, 0x80, 0, 0x7f, 0xff, 0xff, 0xa5,
		0xff, 0, 0xfe, 0xff, 0xed, 0xcc, 0xfe, 0x7b,
	}
	wantTake(t, d, good(data...), in(api.DrvOn),
		api.Raw{},
		api.Raw{X: -1 << 15, Y: 1<<15 - 1, Z: -1, T: -128},
		api.Raw{X: 1<<15 - 1, Y: -1, Z: -1 << 15, T: 127},
		api.Raw{X: -1, Y: -1 << 15, Z: 1<<15 - 1, T: -1},
		api.Raw{X: -256, Y: -257, Z: -0x1234, T: -2})
}

// TestBadToTheEnd: at MaxClock it stays, also if it comes there within a burst.
func TestBadToTheEnd(t *testing.T) {
	for short := range 5 {
		d := in(api.DrvBurst)
		d.Left, d.Bad = 4, api.MaxClock-short
		next := in(api.DrvOn)
		next.Bad = min(api.MaxClock, d.Bad+3)
		data := packed(raws(4)...)
		data[0]++
		data[8]++
		data[31]++
		wantTake(t, d, good(data...), next, raws(4)[2])
		next.Bad = d.Bad
		wantTake(t, d, good(packed(raws(4)...)...), next, raws(4)...)
	}
}

// TestBurstAgain: while it may be asked again, Left stays, and the same is asked.
func TestBurstAgain(t *testing.T) {
	d := in(api.DrvBurst)
	d.Left = api.HwQueue
	tx := api.Tx{Addr: 16, Reg: 4, Read: 128}
	for range api.MaxRetry - 1 {
		d = take(t, d, refused())
		wantNext(t, d, tx)
	}
	again := take(t, d, fit(d), raws(api.HwQueue)...)
	if again != in(api.DrvOn) {
		t.Errorf("%+v", again)
	}
	if over := take(t, d, refused()); over != in(api.DrvReset) {
		t.Errorf("%+v", over)
	}
}

// TestNotInARow: a good answer between failures counts them anew.
func TestNotInARow(t *testing.T) {
	d := in(api.DrvOn)
	for range 10 {
		for fails := range api.MaxRetry - 1 {
			d = take(t, d, refused())
			if d.State != api.DrvOn || d.Fails != fails+1 {
				t.Fatalf("%+v", d)
			}
		}
		d = take(t, d, good(0))
		if d != in(api.DrvOn) {
			t.Fatalf("%+v", d)
		}
	}
}
