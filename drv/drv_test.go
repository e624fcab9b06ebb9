package drv_test

import (
	"bytes"
	"slices"
	"testing"

	"gimbal/api"
	"gimbal/drv"
	"gimbal/wire"
)

const lastState = api.DrvFailed

// good is an answer that went, with those bytes.
func good(data ...byte) api.Answer {
	return api.Answer{Status: api.StatusOK, Data: data}
}

func refused() api.Answer {
	return api.Answer{Status: api.StatusRefused}
}

// packed is the bytes of samples.
func packed(list ...api.Raw) []byte {
	var all []byte
	for _, r := range list {
		sample := wire.Pack(r)
		all = append(all, sample[:]...)
	}
	return all
}

// raws is n samples, each another one.
func raws(n int) []api.Raw {
	list := make([]api.Raw, n)
	for k := range list {
		list[k] = api.Raw{X: 300*k - 1000, Y: -k - 1, Z: 77 * k, T: k%256 - 128}
	}
	return list
}

// in is a driver in that state, wanted with the period 20; in DrvBurst two samples are left.
func in(state int) api.Drv {
	d := api.Drv{Addr: 16, ID: 49, Want: true, Period: 20, State: state}
	if state == api.DrvBurst {
		d.Left = 2
	}
	return d
}

func made(t *testing.T, addr, id int) api.Drv {
	t.Helper()
	d, e := drv.New(addr, id)
	if e != api.OK || d != (api.Drv{Addr: addr, ID: id, Period: 1}) {
		t.Fatalf("New(%d, %d): %+v, %v", addr, id, d, e)
	}
	return d
}

func set(t *testing.T, d api.Drv, want bool, period int) api.Drv {
	t.Helper()
	next, e := drv.Set(d, want, period)
	if e != api.OK || drv.Check(next) != api.OK {
		t.Fatalf("Set(%+v, %v, %d): %+v, %v", d, want, period, next, e)
	}
	return next
}

func asked(t *testing.T, d api.Drv) (api.Tx, bool) {
	t.Helper()
	tx, there, e := drv.Next(d)
	if e != api.OK {
		t.Fatalf("Next(%+v): %v", d, e)
	}
	return tx, there
}

// wantNext holds the driver's transaction against what is wanted.
func wantNext(t *testing.T, d api.Drv, want api.Tx) {
	t.Helper()
	got, there := asked(t, d)
	if !there || !sameTx(got, want) {
		t.Fatalf("Next(%+v): %+v, %v; want %+v", d, got, there, want)
	}
}

func wantNoNext(t *testing.T, d api.Drv) {
	t.Helper()
	if got, there := asked(t, d); there || !sameTx(got, api.Tx{}) {
		t.Fatalf("Next(%+v): %+v, %v; want none", d, got, there)
	}
}

func sameTx(a, b api.Tx) bool {
	return a.Addr == b.Addr && a.Reg == b.Reg && bytes.Equal(a.Write, b.Write) && a.Read == b.Read
}

// take takes the answer; what it tells is held against those samples, and the driver is told.
func take(t *testing.T, d api.Drv, a api.Answer, samples ...api.Raw) api.Drv {
	t.Helper()
	next, told, failed, e := drv.Take(d, a)
	if e != api.OK || drv.Check(next) != api.OK {
		t.Fatalf("Take(%+v, %+v): %+v, %v", d, a, next, e)
	}
	if !slices.Equal(told, samples) {
		t.Fatalf("Take(%+v, %+v): %+v; want %+v", d, a, told, samples)
	}
	if failed != (next.State == api.DrvFailed) {
		t.Fatalf("Take(%+v, %+v): %+v, failed %v", d, a, next, failed)
	}
	return next
}

// wantTake holds the driver behind the answer against what is wanted.
func wantTake(t *testing.T, d api.Drv, a api.Answer, want api.Drv, samples ...api.Raw) {
	t.Helper()
	if got := take(t, d, a, samples...); got != want {
		t.Fatalf("Take(%+v, %+v): %+v; want %+v", d, a, got, want)
	}
}

// TestExample is that of the chapter.
func TestExample(t *testing.T) {
	d := made(t, 16, 49)
	wantNoNext(t, d)
	d = set(t, d, true, 20)
	for _, step := range []struct {
		tx   api.Tx
		data []byte
	}{
		{api.Tx{Addr: 16, Reg: 0, Read: 1}, []byte{49}},
		{api.Tx{Addr: 16, Reg: 2, Write: []byte{20}}, nil},
		{api.Tx{Addr: 16, Reg: 1, Write: []byte{1}}, nil},
		{api.Tx{Addr: 16, Reg: 3, Read: 1}, []byte{0}},
		{api.Tx{Addr: 16, Reg: 3, Read: 1}, []byte{0}},
	} {
		wantNext(t, d, step.tx)
		d = take(t, d, good(step.data...))
	}
	if d != in(api.DrvOn) {
		t.Errorf("%+v", d)
	}
}

// TestNewBounds: with the least and the greatest of both.
func TestNewBounds(t *testing.T) {
	for _, addr := range []int{0, 1, 64, 126, 127} {
		for _, id := range []int{0, 1, 127, 128, 254, 255} {
			d := made(t, addr, id)
			if drv.Check(d) != api.OK {
				t.Errorf("%+v is none", d)
			}
			wantNoNext(t, d)
			d = set(t, d, true, 250)
			wantNext(t, d, api.Tx{Addr: addr, Reg: 0, Read: 1})
			d = take(t, d, good(byte(id)))
			wantNext(t, d, api.Tx{Addr: addr, Reg: 2, Write: []byte{250}})
		}
	}
}

// TestTransactions: that of each state, of drivers at their bounds.
func TestTransactions(t *testing.T) {
	for _, addr := range []int{0, 16, 127} {
		for _, period := range []int{1, 2, 127, 128, 249, 250} {
			for _, want := range []bool{false, true} {
				d := api.Drv{Addr: addr, ID: 255, Want: want, Period: period, Fails: 2, Tried: want, Bad: 3}
				for state, tx := range map[int]api.Tx{
					api.DrvID:     {Reg: 0, Read: 1},
					api.DrvPeriod: {Reg: 2, Write: []byte{byte(period)}},
					api.DrvStart:  {Reg: 1, Write: []byte{1}},
					api.DrvOn:     {Reg: 3, Read: 1},
					api.DrvStop:   {Reg: 1, Write: []byte{0}},
					api.DrvReset:  {Reg: 5, Write: []byte{0xb6}},
				} {
					d.State, tx.Addr = state, addr
					wantNext(t, d, tx)
				}
				for _, state := range []int{api.DrvOff, api.DrvFailed} {
					d.State = state
					wantNoNext(t, d)
				}
				d.State = api.DrvBurst
				for left := 1; left <= api.HwQueue; left++ {
					d.Left = left
					wantNext(t, d, api.Tx{Addr: addr, Reg: 4, Read: 8 * left})
				}
			}
		}
	}
}

// TestToldIsNew: what is told may be written into and appended to; what is handed in is as it was.
func TestToldIsNew(t *testing.T) {
	for _, state := range []int{api.DrvPeriod, api.DrvStart, api.DrvStop, api.DrvReset} {
		first, _ := asked(t, in(state))
		second, _ := asked(t, in(state))
		whole := slices.Clone(second.Write)
		for k := range first.Write[:cap(first.Write)] {
			first.Write[:cap(first.Write)][k] ^= 0xff
		}
		third, _ := asked(t, in(state))
		if !bytes.Equal(second.Write, whole) || !bytes.Equal(third.Write, whole) {
			t.Errorf("state %d: %x, %x; want %x", state, second.Write, third.Write, whole)
		}
	}
	data := packed(raws(2)...)
	a := good(data...)
	_, first, _, _ := drv.Take(in(api.DrvBurst), a)
	_, second, _, _ := drv.Take(in(api.DrvBurst), a)
	clear(first[:cap(first)])
	if !slices.Equal(second, raws(2)) || !bytes.Equal(a.Data, packed(raws(2)...)) {
		t.Errorf("%+v, %x", second, a.Data)
	}
	clear(data)
	clear(a.Data)
	if !slices.Equal(second, raws(2)) {
		t.Errorf("%+v", second)
	}
}
