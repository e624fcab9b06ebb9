package drv_test

import (
	"slices"
	"testing"

	"gimbal/api"
	"gimbal/bus"
	"gimbal/drv"
)

// pair is a driver and the bus that does its transactions.
type pair struct {
	d       api.Drv
	b       *bus.Bus
	samples []api.Raw // that were told so far
	failed  int       // how often it was told that it failed
}

// over is a driver of a device with n samples; some of its transactions go wrong.
func over(t *testing.T, n int, faults ...api.Fault) *pair {
	t.Helper()
	b, e := bus.New([]api.Model{{Addr: 5, ID: 1, List: raws(3)}, {Addr: 16, ID: 49, List: raws(n)}}, faults)
	if e != api.OK {
		t.Fatal(e)
	}
	return &pair{d: made(t, 16, 49), b: b}
}

// do does the driver's transaction, if there is one, and tells whether there was.
func (p *pair) do(t *testing.T) bool {
	t.Helper()
	tx, there := asked(t, p.d)
	if !there {
		return false
	}
	a, e := p.b.Do(tx)
	if e != api.OK {
		t.Fatalf("Do(%+v): %v", tx, e)
	}
	next, told, failed, e := drv.Take(p.d, a)
	if e != api.OK {
		t.Fatalf("Take(%+v, %+v): %v", p.d, a, e)
	}
	p.d = next
	p.samples = append(p.samples, told...)
	if failed {
		p.failed++
	}
	return true
}

func (p *pair) set(t *testing.T, want bool, period int) {
	t.Helper()
	p.d = set(t, p.d, want, period)
}

func (p *pair) tick(t *testing.T, n int) {
	t.Helper()
	if e := p.b.Tick(n); e != api.OK {
		t.Fatal(e)
	}
}

// wantStates does a transaction for each of them, behind which the driver is in it.
func (p *pair) wantStates(t *testing.T, states ...int) {
	t.Helper()
	for i, state := range states {
		if !p.do(t) || p.d.State != state {
			t.Fatalf("%d of %v: %+v", i, states, p.d)
		}
	}
}

func (p *pair) wantDev(t *testing.T, want api.Dev) {
	t.Helper()
	want.Addr = 16
	if got, e := p.b.Dev(16); e != api.OK || got != want {
		t.Fatalf("Dev: %+v, %v; want %+v", got, e, want)
	}
}

func (p *pair) wantSamples(t *testing.T, bad int, want ...api.Raw) {
	t.Helper()
	if !slices.Equal(p.samples, want) || p.d.Bad != bad {
		t.Fatalf("%+v, %d bad; want %+v, %d", p.samples, p.d.Bad, want, bad)
	}
}

// TestOverBus: from off to on, its samples, another period, and off again.
func TestOverBus(t *testing.T) {
	p := over(t, 40)
	if p.do(t) {
		t.Fatal("off, and it asks")
	}
	p.set(t, true, 10)
	p.wantStates(t, api.DrvPeriod, api.DrvStart, api.DrvOn, api.DrvOn)
	p.wantDev(t, api.Dev{On: true, Period: 10})
	p.tick(t, 9)
	p.wantStates(t, api.DrvOn)
	p.tick(t, 31)
	p.wantStates(t, api.DrvBurst, api.DrvOn, api.DrvOn)
	p.wantSamples(t, 0, raws(4)...)
	p.tick(t, 10*api.HwQueue+20)
	p.wantStates(t, api.DrvBurst, api.DrvOn, api.DrvOn)
	p.wantSamples(t, 0, raws(4+api.HwQueue)...)
	p.set(t, true, 1)
	p.wantStates(t, api.DrvStart, api.DrvOn)
	p.wantDev(t, api.Dev{On: true, Period: 1, Lost: 2, Next: 22})
	p.tick(t, 1)
	p.wantStates(t, api.DrvBurst)
	p.set(t, false, 1)
	p.wantStates(t, api.DrvOff)
	p.wantDev(t, api.Dev{Period: 1, Lost: 2, Next: 23})
	if p.do(t) {
		t.Fatal("off, and it asks")
	}
	p.wantSamples(t, 0, raws(4+api.HwQueue)...)
	if p.failed != 0 {
		t.Errorf("failed: %d", p.failed)
	}
}

// TestFaultsOverBus: each kind of fault, at each of the transactions to on; it is asked again, and goes.
func TestFaultsOverBus(t *testing.T) {
	for at := 1; at <= 3; at++ {
		for _, kind := range []int{api.FaultRefuse, api.FaultStall} {
			for n := 1; n < api.MaxRetry; n++ {
				var faults []api.Fault
				for k := range n {
					faults = append(faults, api.Fault{At: at + k, Kind: kind})
				}
				p := over(t, 3, faults...)
				p.set(t, true, 4)
				for range 3 + n {
					p.do(t)
				}
				if p.d != (api.Drv{Addr: 16, ID: 49, Want: true, Period: 4, State: api.DrvOn}) {
					t.Errorf("kind %d, %d times from %d on: %+v", kind, n, at, p.d)
				}
				p.wantDev(t, api.Dev{On: true, Period: 4})
			}
		}
	}
}

// TestResetOverBus: behind MaxRetry failures the device is reset, and goes; it failed no more than that, so the next ones lead to a reset again.
func TestResetOverBus(t *testing.T) {
	refuse := func(from int) []api.Fault {
		return []api.Fault{{At: from, Kind: api.FaultRefuse}, {At: from + 1, Kind: api.FaultStall}, {At: from + 2, Kind: api.FaultRefuse}}
	}
	p := over(t, 3, append(refuse(4), refuse(11)...)...)
	p.set(t, true, 4)
	for range 2 {
		p.wantStates(t, api.DrvPeriod, api.DrvStart, api.DrvOn)
		p.wantDev(t, api.Dev{On: true, Period: 4})
		p.wantStates(t, api.DrvOn, api.DrvOn, api.DrvReset, api.DrvID)
		p.wantDev(t, api.Dev{Period: 1})
		if !p.d.Tried {
			t.Errorf("%+v", p.d)
		}
	}
	p.wantStates(t, api.DrvPeriod, api.DrvStart, api.DrvOn, api.DrvOn)
	if p.d.Tried || p.failed != 0 {
		t.Errorf("%+v, failed: %d", p.d, p.failed)
	}
}

// TestGivenUp: a device with another identity, one that is not there, and one whose reset goes wrong.
func TestGivenUp(t *testing.T) {
	other := over(t, 3)
	other.d.ID = 50
	other.set(t, true, 4)
	other.wantStates(t, api.DrvID, api.DrvID, api.DrvReset, api.DrvID, api.DrvID, api.DrvID, api.DrvFailed)
	gone := over(t, 3)
	gone.d.Addr = 17
	gone.set(t, true, 4)
	gone.wantStates(t, api.DrvID, api.DrvID, api.DrvReset, api.DrvFailed)
	var faults []api.Fault
	for at := 4; at <= 7; at++ {
		faults = append(faults, api.Fault{At: at, Kind: api.FaultStall})
	}
	hung := over(t, 3, faults...)
	hung.set(t, true, 4)
	hung.wantStates(t, api.DrvPeriod, api.DrvStart, api.DrvOn, api.DrvOn, api.DrvOn, api.DrvReset, api.DrvFailed)
	for _, p := range []*pair{other, gone, hung} {
		count := p.b.Count()
		p.set(t, false, 3)
		p.set(t, true, 3)
		p.tick(t, 100)
		if p.do(t) || p.b.Count() != count || p.failed != 1 || p.d.State != api.DrvFailed {
			t.Errorf("%+v, failed: %d", p.d, p.failed)
		}
		p.wantSamples(t, 0)
	}
}

// TestBadSamplesOverBus: a byte that is turned costs its sample alone; samples of a read that hung are gone, and what is read in their place is discarded.
func TestBadSamplesOverBus(t *testing.T) {
	p := over(t, 9, api.Fault{At: 5, Kind: api.FaultCorrupt, Index: 9, Xor: 4}, api.Fault{At: 7, Kind: api.FaultStall}, api.Fault{At: 10, Kind: api.FaultCorrupt, Xor: 0x10})
	p.set(t, true, 1)
	p.wantStates(t, api.DrvPeriod, api.DrvStart, api.DrvOn)
	p.tick(t, 3)
	p.wantStates(t, api.DrvBurst, api.DrvOn)
	p.wantSamples(t, 1, raws(3)[0], raws(3)[2])
	p.tick(t, 2)
	p.wantStates(t, api.DrvBurst, api.DrvBurst, api.DrvOn)
	p.wantSamples(t, 3, raws(3)[0], raws(3)[2])
	p.tick(t, 1)
	p.wantStates(t, api.DrvBurst)
	p.d.Left = 2 // one more than there is
	p.wantStates(t, api.DrvOn)
	p.wantSamples(t, 5, raws(3)[0], raws(3)[2])
	p.tick(t, 1)
	p.wantStates(t, api.DrvBurst, api.DrvOn)
	p.wantSamples(t, 5, raws(3)[0], raws(3)[2], raws(7)[6])
}
