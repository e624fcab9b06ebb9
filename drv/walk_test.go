package drv_test

import (
	"math/rand"
	"slices"
	"testing"

	"gimbal/api"
	"gimbal/bus"
	"gimbal/drv"
)

// plain is a driver as the chapter says it, beside which it is told how it came to its state.
type plain struct {
	d      api.Drv
	row    int  // answers that were not good one behind the other
	resets int  // that went, since it was on or off
	given  bool // it was given up
}

func (p *plain) become(state int) {
	if p.d.State != state {
		p.d.State, p.d.Fails, p.d.Left = state, 0, 0
	}
}

func (p *plain) set(want bool, period int) {
	another := period != p.d.Period
	p.d.Want, p.d.Period = want, period
	s := p.d.State
	if s == api.DrvReset || s == api.DrvFailed {
		return
	}
	if !want && s != api.DrvOff {
		p.become(api.DrvStop)
	}
	if want && (s == api.DrvOff || s == api.DrvStop) {
		p.become(api.DrvID)
	}
	if want && another && (s == api.DrvStart || s == api.DrvOn || s == api.DrvBurst) {
		p.become(api.DrvPeriod)
	}
}

// length is how many bytes a good answer has; -1, if nothing is asked.
func (p *plain) length() int {
	switch p.d.State {
	case api.DrvOff, api.DrvFailed:
		return -1
	case api.DrvID, api.DrvOn:
		return 1
	case api.DrvBurst:
		return 8 * p.d.Left
	}
	return 0
}

func (p *plain) good(a api.Answer) bool {
	if a.Status != api.StatusOK || len(a.Data) != p.length() {
		return false
	}
	switch p.d.State {
	case api.DrvID:
		return a.Data[0] == byte(p.d.ID)
	case api.DrvOn:
		return a.Data[0] <= 16
	}
	return true
}

// take takes an answer to what was asked, and tells the samples.
func (p *plain) take(a api.Answer) []api.Raw {
	if !p.good(a) {
		p.miss()
		return nil
	}
	p.row, p.d.Fails = 0, 0
	switch p.d.State {
	case api.DrvID, api.DrvPeriod:
		p.become(p.d.State + 1)
	case api.DrvStart:
		p.become(api.DrvOn)
		p.d.Tried, p.resets = false, 0
	case api.DrvOn:
		if n := int(a.Data[0]); n > 0 {
			p.become(api.DrvBurst)
			p.d.Left = n
		}
	case api.DrvBurst:
		p.become(api.DrvOn)
		return p.burst(a.Data)
	case api.DrvStop:
		p.become(api.DrvOff)
		p.d.Tried, p.resets = false, 0
	case api.DrvReset:
		p.d.Tried = true
		p.resets++
		p.become(api.DrvStop)
		if p.d.Want {
			p.become(api.DrvID)
		}
	}
	return nil
}

func (p *plain) burst(data []byte) []api.Raw {
	var list []api.Raw
	for k := 0; k < len(data); k += 8 {
		word := func(i int) int {
			return (int(data[k+i])*256+int(data[k+i+1])+1<<15)%(1<<16) - 1<<15
		}
		all := byte(0x5a)
		for _, x := range data[k : k+8] {
			all ^= x
		}
		if all == 0 {
			list = append(list, api.Raw{X: word(0), Y: word(2), Z: word(4), T: (int(data[k+6])+128)%256 - 128})
		} else {
			p.d.Bad = min(p.d.Bad+1, api.MaxClock)
		}
	}
	return list
}

func (p *plain) miss() {
	p.row++
	p.d.Fails++
	switch {
	case p.d.State == api.DrvReset, p.d.Fails == 3 && p.d.Tried:
		p.become(api.DrvFailed)
		p.given = true
	case p.d.Fails == 3:
		p.become(api.DrvReset)
	}
}

// wantPlain does the same to the program's driver, and holds one against the other.
func wantPlain(t *testing.T, p *plain, a api.Answer) {
	t.Helper()
	d := p.d
	if p.length() < 0 {
		wantNotTaken(t, d)
		return
	}
	samples := p.take(a)
	wantTake(t, d, a, p.d, samples...)
}

// manyDrivers is drivers of all kinds, each field at its bounds and between.
func manyDrivers() []api.Drv {
	var all []api.Drv
	for state := range lastState + 1 {
		lefts := []int{0}
		if state == api.DrvBurst {
			lefts = []int{1, 2, 15, api.HwQueue}
		}
		for _, left := range lefts {
			for fails := range api.MaxRetry {
				for flags := range 4 {
					for _, bad := range []int{0, 1, api.MaxClock - 1, api.MaxClock} {
						for _, ends := range [][3]int{{0, 0, 1}, {16, 49, 20}, {127, 255, 250}} {
							all = append(all, api.Drv{Addr: ends[0], ID: ends[1], Period: ends[2], State: state, Left: left, Fails: fails, Bad: bad, Want: flags&1 == 1, Tried: flags&2 == 2})
						}
					}
				}
			}
		}
	}
	return all
}

// manyAnswers is answers of all kinds to the driver.
func manyAnswers(d api.Drv) []api.Answer {
	all := []api.Answer{{}, refused(), {Status: api.StatusStalled}, {Status: api.StatusStalled + 1}, {Status: -1}, good(), good(0), good(byte(d.ID)), good(byte(d.ID) + 1), good(1), good(15), good(16), good(17), good(128), good(255), good(0, 0), good(16, 16)}
	whole := packed(raws(api.HwQueue + 1)...)
	whole[8*1+3] ^= 1
	whole[8*14+7] ^= 0x80
	for _, n := range []int{7, 8, 9, 15, 16, 17, 119, 120, 121, 127, 128, 129, 136} {
		all = append(all, good(whole[:n]...), good(make([]byte, n)...), api.Answer{Status: api.StatusRefused, Data: whole[:n]})
	}
	return all
}

// TestAllKinds: all kinds of drivers with all kinds of answers and of wants.
func TestAllKinds(t *testing.T) {
	b, _ := bus.New([]api.Model{{Addr: 16, ID: 49, List: raws(9)}}, nil)
	for _, d := range manyDrivers() {
		if drv.Check(d) != api.OK {
			t.Fatalf("Check(%+v)", d)
		}
		tx, there := asked(t, d)
		if p := (plain{d: d}); there != (p.length() >= 0) || there && tx.Read != p.length() {
			t.Fatalf("Next(%+v): %+v, %v", d, tx, there)
		}
		if _, e := b.Do(tx); there && e != api.OK {
			t.Fatalf("Next(%+v): %+v is no transaction", d, tx)
		}
		for _, a := range manyAnswers(d) {
			wantPlain(t, &plain{d: d}, a)
		}
		for _, want := range bools() {
			for _, period := range []int{1, 2, 20, 249, 250} {
				p := &plain{d: d}
				p.set(want, period)
				if got := set(t, d, want, period); got != p.d {
					t.Fatalf("Set(%+v, %v, %d): %+v; want %+v", d, want, period, got, p.d)
				}
			}
		}
	}
}

// chance is whether a thing of so many in a hundred is to be.
func chance(rnd *rand.Rand, percent int) bool {
	return rnd.Intn(100) < percent
}

// someAnswer is a good one, but for so many in a hundred.
func someAnswer(rnd *rand.Rand, d api.Drv, wrong int) api.Answer {
	if chance(rnd, wrong) {
		all := wrongAnswers(d)
		return all[rnd.Intn(len(all))]
	}
	a := fit(d)
	if d.State == api.DrvOn {
		a.Data[0] = byte(rnd.Intn(api.HwQueue + 1))
	}
	if d.State == api.DrvBurst && chance(rnd, 50) {
		a.Data[rnd.Intn(len(a.Data))] ^= byte(rnd.Intn(256))
	}
	return a
}

// TestWalks: from New on, by wants and answers of any kind; a driver is given up just where the chapter says so.
func TestWalks(t *testing.T) {
	var given, resets int
	for seed := range int64(400) {
		rnd := rand.New(rand.NewSource(seed))
		p := &plain{d: made(t, rnd.Intn(128), rnd.Intn(256))}
		wrong := []int{0, 5, 30, 60, 95}[seed%5]
		for range 200 {
			if p.d.State == api.DrvOff || chance(rnd, 5) {
				d, want, period := p.d, chance(rnd, 80), 1+rnd.Intn(3)
				p.set(want, period)
				if got := set(t, d, want, period); got != p.d {
					t.Fatalf("Set(%+v, %v, %d): %+v; want %+v", d, want, period, got, p.d)
				}
				continue
			}
			before := *p
			wantPlain(t, p, someAnswer(rnd, p.d, wrong))
			wantCause(t, before, *p)
			if before.d.State == api.DrvReset {
				resets++
			}
			if p.given {
				given++
				wantNoNext(t, p.d)
				break
			}
		}
		if wrong == 0 && (p.given || p.resets > 0) {
			t.Fatalf("with good answers alone: %+v", p.d)
		}
	}
	if given == 0 || resets == 0 {
		t.Errorf("given up: %d, resets: %d", given, resets)
	}
}

// wantCause: a reset is asked only behind MaxRetry answers that were not good one behind the other; it is given up only so behind a reset that went, or with one that did not.
func wantCause(t *testing.T, before, p plain) {
	t.Helper()
	if p.d.State == api.DrvReset && before.d.State != api.DrvReset && p.row < api.MaxRetry {
		t.Fatalf("a reset behind %d failures: %+v", p.row, before.d)
	}
	if !p.given {
		return
	}
	if before.d.State == api.DrvReset && p.row <= api.MaxRetry {
		t.Fatalf("given up behind %d failures: %+v", p.row, before.d)
	}
	if before.d.State != api.DrvReset && (p.row < api.MaxRetry || p.resets == 0) {
		t.Fatalf("given up behind %d failures, %d resets: %+v", p.row, p.resets, before.d)
	}
}

// TestOnBehindThree: with good answers alone, whichever device it is.
func TestOnBehindThree(t *testing.T) {
	for _, addr := range []int{0, 16, 127} {
		for id := range 256 {
			for _, period := range []int{1, 20, 250} {
				d := set(t, made(t, addr, id), true, period)
				var states []int
				for range 3 {
					d = take(t, d, fit(d))
					states = append(states, d.State)
				}
				if !slices.Equal(states, []int{api.DrvPeriod, api.DrvStart, api.DrvOn}) {
					t.Fatalf("%v", states)
				}
			}
		}
	}
}

// TestWaysToFailure: for each state in which it begins to fail, each step to the end.
func TestWaysToFailure(t *testing.T) {
	for _, state := range busy() {
		for _, want := range bools() {
			d := in(state)
			d.Want = want
			steps := api.MaxRetry // to the reset
			if state == api.DrvReset {
				steps = 0
			}
			for range steps {
				d = take(t, d, refused())
			}
			if d.State != api.DrvReset || d.Fails != 0 || d.Left != 0 || d.Tried {
				t.Fatalf("from %d: %+v", state, d)
			}
			if gone := take(t, d, refused()); gone.State != api.DrvFailed || gone.Tried {
				t.Fatalf("from %d: %+v", state, gone)
			}
			d = take(t, d, good())
			for range api.MaxRetry {
				if d.State == api.DrvFailed {
					t.Fatalf("from %d: too soon", state)
				}
				d = take(t, d, refused())
			}
			if d.State != api.DrvFailed || d.Fails != 0 || d.Left != 0 || !d.Tried || d.Want != want {
				t.Fatalf("from %d: %+v", state, d)
			}
		}
	}
}

// TestFailsAcrossStates: behind a reset that went each state has MaxRetry failures of its own, and one on the way gives it up.
func TestFailsAcrossStates(t *testing.T) {
	for _, last := range []int{api.DrvID, api.DrvPeriod, api.DrvStart} {
		d := take(t, in(api.DrvReset), good())
		for d.State != last {
			d = take(t, take(t, take(t, d, refused()), refused()), fit(d))
		}
		for fails := range api.MaxRetry {
			if d.State != last || d.Fails != fails || !d.Tried {
				t.Fatalf("%+v", d)
			}
			d = take(t, d, refused())
		}
		if d.State != api.DrvFailed {
			t.Errorf("in %d: %+v", last, d)
		}
	}
}
