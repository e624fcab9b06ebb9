package bus_test

import (
	"bytes"
	"math"
	"slices"
	"testing"

	"gimbal/api"
	"gimbal/bus"
)

func wantNone(t *testing.T, what string, models []api.Model, faults []api.Fault) {
	t.Helper()
	if b, e := bus.New(models, faults); b != nil || e != api.ErrForm {
		t.Errorf("New, %s: %v, %v", what, b, e)
	}
}

// wrongModels is what is no model, each for one reason.
func wrongModels() []api.Model {
	var all []api.Model
	for _, addr := range []int{-1, 128, -128, 255, 256, 1 << 32, math.MinInt, math.MaxInt} {
		all = append(all, api.Model{Addr: addr})
	}
	for _, id := range []int{-1, 256, -255, 1 << 32, math.MinInt, math.MaxInt} {
		all = append(all, api.Model{ID: id})
	}
	for _, x := range []int{1 << 15, -1<<15 - 1, 1 << 16, 1 << 32, math.MinInt, math.MaxInt} {
		all = append(all, api.Model{List: []api.Raw{{X: x}}}, api.Model{List: []api.Raw{{Y: x}}}, api.Model{List: []api.Raw{{Z: x}}})
	}
	for _, x := range []int{128, -129, 255, 256, 1 << 15, 1 << 32, math.MinInt, math.MaxInt} {
		all = append(all, api.Model{List: []api.Raw{{T: x}}})
	}
	last := raws(api.MaxList)
	last[api.MaxList-1].T = 128
	return append(all, api.Model{List: last}, api.Model{List: raws(api.MaxList + 1)})
}

func TestWrongModels(t *testing.T) {
	for _, m := range wrongModels() {
		wantNone(t, "alone", []api.Model{m}, nil)
		wantNone(t, "ahead of a model", append([]api.Model{m}, one(1)...), nil)
		wantNone(t, "behind a model", append(one(1), m), nil)
	}
}

// apart is n models with addresses of their own.
func apart(n int) []api.Model {
	models := make([]api.Model, n)
	for i := range models {
		models[i] = api.Model{Addr: 10 + i, ID: i}
	}
	return models
}

func TestTooManyModels(t *testing.T) {
	for n := range api.MaxDevs + 1 {
		made(t, apart(n))
	}
	for n := api.MaxDevs + 1; n < 40; n++ {
		wantNone(t, "too many models", apart(n), nil)
	}
}

// TestOneAddressTwice: whichever two they are, and be they alike or not.
func TestOneAddressTwice(t *testing.T) {
	for i := range api.MaxDevs {
		for j := range i {
			models := apart(api.MaxDevs)
			models[i].Addr = models[j].Addr
			wantNone(t, "one address twice", models, nil)
			models[i] = models[j]
			wantNone(t, "one model twice", models, nil)
		}
	}
	models := apart(3)
	for i := range models {
		models[i].ID = 9
	}
	made(t, models) // identities may be alike
}

// wrongFaults is what is no fault, each for one reason.
func wrongFaults() []api.Fault {
	var all []api.Fault
	for _, kind := range []int{api.FaultRefuse, api.FaultStall, api.FaultCorrupt} {
		all = append(all, api.Fault{At: 0, Kind: kind}, api.Fault{At: -1, Kind: kind}, api.Fault{At: math.MinInt, Kind: kind})
		all = append(all, api.Fault{At: 1, Kind: kind, Index: -1}, api.Fault{At: 1, Kind: kind, Index: math.MinInt})
	}
	for _, kind := range []int{api.FaultNone, -1, api.FaultCorrupt + 1, 1 << 32, 1<<32 + 1, math.MinInt, math.MaxInt} {
		all = append(all, api.Fault{At: 1, Kind: kind, Xor: 1})
	}
	return all
}

// TestWrongFaults: also where one with the same At stands ahead, so that it would not count.
func TestWrongFaults(t *testing.T) {
	good := api.Fault{At: 1, Kind: api.FaultStall}
	for _, f := range wrongFaults() {
		wantNone(t, "a fault alone", one(1), []api.Fault{f})
		wantNone(t, "a fault ahead of another", one(1), []api.Fault{f, good})
		wantNone(t, "a fault behind another", one(1), []api.Fault{good, f})
		wantNone(t, "a fault without a model", nil, []api.Fault{f})
		wantNone(t, "the last of most faults", one(1), append(slices.Repeat([]api.Fault{good}, most-1), f))
	}
}

func TestTooManyFaults(t *testing.T) {
	good := []api.Fault{{At: 1, Kind: api.FaultStall}}
	made(t, one(1), slices.Repeat(good, most)...)
	for _, n := range []int{most + 1, most + 2, 2 * most} {
		wantNone(t, "too many faults", one(1), slices.Repeat(good, n))
		wantNone(t, "too many faults", nil, slices.Repeat(good, n))
	}
}

// wrongTxs is what is no transaction, each for one reason.
func wrongTxs() []api.Tx {
	var all []api.Tx
	byteOf := []byte{1}
	for _, addr := range []int{-1, 128, -128, 133, 256 + 5, 1<<32 + 5, math.MinInt, math.MaxInt} {
		all = append(all, api.Tx{Addr: addr, Reg: regOn, Read: 1}, api.Tx{Addr: addr, Reg: regPeriod, Write: byteOf})
	}
	for _, reg := range []int{-1, 6, 7, 256 + 1, 1<<32 + 1, math.MinInt, math.MaxInt} {
		all = append(all, api.Tx{Addr: 5, Reg: reg, Read: 8}, api.Tx{Addr: 5, Reg: reg, Write: byteOf})
	}
	for reg := range 6 {
		for _, read := range []int{0, -1, -8, 129, 130, 256, 1 << 32, 1<<32 + 1, math.MinInt, math.MaxInt} {
			all = append(all, api.Tx{Addr: 5, Reg: reg, Read: read}, api.Tx{Addr: 5, Reg: reg, Read: read, Write: []byte{}})
		}
		for _, read := range []int{1, -1, 8, 128, 129, math.MinInt, math.MaxInt} {
			all = append(all, api.Tx{Addr: 5, Reg: reg, Read: read, Write: byteOf}, api.Tx{Addr: 5, Reg: reg, Read: read, Write: make([]byte, 8)})
		}
		for _, n := range []int{9, 10, 16, 256, 1 << 16} {
			all = append(all, api.Tx{Addr: 5, Reg: reg, Write: make([]byte, n)})
		}
	}
	return all
}

// TestWrongTransactions: they are answered by ErrForm alone, have no number, and change nothing.
func TestWrongTransactions(t *testing.T) {
	b := running(t, 9, 2, api.Fault{At: 2, Kind: api.FaultStall})
	tick(t, b, 7)
	for _, tx := range wrongTxs() {
		a, e := b.Do(tx)
		if e != api.ErrForm || a.Status != api.StatusNone || len(a.Data) != 0 {
			t.Errorf("Do(%+v): %+v, %v", tx, a, e)
		}
		if b.Count() != 1 {
			t.Fatalf("Do(%+v): %d transactions", tx, b.Count())
		}
		wantDev(t, b, api.Dev{Addr: 5, On: true, Period: 2, Count: 3, Next: 3})
	}
	want(t, b, api.Tx{Addr: 5, Read: 1}, api.StatusStalled)
	tick(t, b, 1)
	wantRead(t, b, regQueue, append(packed(raws(4)...), 0xff)...)
}

// TestRightTransactions: those at the edges are taken, be there a device or not.
func TestRightTransactions(t *testing.T) {
	for _, addr := range []int{0, 1, 5, 126, 127} {
		for reg := range 6 {
			for _, tx := range []api.Tx{{Read: 1}, {Read: 128}, {Read: 1, Write: []byte{}}, {Write: make([]byte, 1)}, {Write: make([]byte, 8)}} {
				tx.Addr, tx.Reg = addr, reg
				b := made(t, one(1))
				a, e := b.Do(tx)
				status, length := api.StatusRefused, 0
				if addr == 5 {
					status, length = api.StatusOK, tx.Read
				}
				if e != api.OK || a.Status != status || len(a.Data) != length || b.Count() != 1 {
					t.Errorf("Do(%+v): %+v, %v", tx, a, e)
				}
			}
		}
	}
}

// TestHandedIn: what is handed in is neither changed nor kept.
func TestHandedIn(t *testing.T) {
	models := append(one(4), api.Model{Addr: 6, ID: 1, List: raws(3)})
	faults := []api.Fault{{At: 3, Kind: api.FaultCorrupt, Xor: 1}, {At: 3, Kind: api.FaultRefuse}}
	b := made(t, models, faults...)
	if !slices.Equal(models[0].List, raws(4)) || !slices.Equal(models[1].List, raws(3)) || faults[0] != (api.Fault{At: 3, Kind: api.FaultCorrupt, Xor: 1}) || faults[1] != (api.Fault{At: 3, Kind: api.FaultRefuse}) {
		t.Errorf("changed: %+v, %+v", models, faults)
	}
	clear(models[0].List)
	clear(models[1].List)
	clear(models)
	clear(faults)
	bytesOf := []byte{1, 2}
	write(t, b, regOn, bytesOf...)
	if !bytes.Equal(bytesOf, []byte{1, 2}) {
		t.Errorf("changed: %v", bytesOf)
	}
	clear(bytesOf)
	wantRead(t, b, regOn, 1, 2)
	want(t, b, api.Tx{Addr: 5, Read: 1}, api.StatusOK, 0xa6)
	tick(t, b, 8)
	wantRead(t, b, regQueue, packed(raws(4)...)...)
}

// TestToldIsNew: what is told may be written into and appended to.
func TestToldIsNew(t *testing.T) {
	b := running(t, 9, 1)
	tick(t, b, 4)
	var told [][]byte
	for _, tx := range []api.Tx{{Addr: 5, Read: 5}, {Addr: 5, Read: 5}, {Addr: 5, Reg: regQueue, Read: 12}, {Addr: 5, Reg: regQueue, Read: 12}} {
		a, _ := b.Do(tx)
		told = append(told, a.Data)
	}
	whole := [][]byte{{0xa7, 1, 1, 4, 0}, {0xa7, 1, 1, 4, 0}, packed(raws(2)...)[:12], packed(raws(4)[2:]...)[:12]}
	for i := range told {
		for j := i; j < len(told); j++ {
			if !bytes.Equal(told[j], whole[j]) {
				t.Errorf("%d, with %d written: %x", j, i, told[j])
			}
		}
		room := told[i][:cap(told[i])]
		for k := range room {
			room[k] = 0x33
		}
	}
	wantRead(t, b, regID, 0xa7, 1, 1, 0)
	tick(t, b, 1)
	wantRead(t, b, regQueue, packed(raws(5)[4])...)
	wantRead(t, b, regQueue, blanks(8)...)
}

// TestBusesApart: two of one model have nothing in common.
func TestBusesApart(t *testing.T) {
	models, faults := one(5), []api.Fault{{At: 2, Kind: api.FaultStall}}
	a, b := made(t, models, faults...), made(t, models, faults...)
	write(t, a, regOn, 1, 2)
	tick(t, a, 5)
	want(t, a, api.Tx{Addr: 5, Read: 1}, api.StatusStalled)
	wantDev(t, b, api.Dev{Addr: 5, Period: 1})
	if b.Count() != 0 {
		t.Errorf("Count: %d", b.Count())
	}
	wantRead(t, b, regID, 0xa7)
	want(t, b, api.Tx{Addr: 5, Read: 1}, api.StatusStalled)
	wantDev(t, a, api.Dev{Addr: 5, On: true, Period: 2, Count: 2, Next: 2})
}

// TestUnmade: a bus that New has not made has no device, and calls of it end.
func TestUnmade(t *testing.T) {
	var b bus.Bus
	want(t, &b, api.Tx{Addr: 5, Read: 1}, api.StatusRefused)
	tick(t, &b, 5)
	if d, e := b.Dev(0); d != (api.Dev{}) || e != api.ErrNone {
		t.Errorf("Dev: %+v, %v", d, e)
	}
}
