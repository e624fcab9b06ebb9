package bus_test

import (
	"math"
	"testing"

	"gimbal/api"
)

// turned is data with one byte turned.
func turned(data []byte, index int, xor byte) []byte {
	all := append([]byte(nil), data...)
	all[index] ^= xor
	return all
}

// TestRefused: nothing is done, of a write and of reads.
func TestRefused(t *testing.T) {
	b := running(t, 9, 2, api.Fault{At: 2, Kind: api.FaultRefuse}, api.Fault{At: 3, Kind: api.FaultRefuse, Index: 7, Xor: 3}, api.Fault{At: 4, Kind: api.FaultRefuse})
	tick(t, b, 6)
	want(t, b, api.Tx{Addr: 5, Reg: regOn, Write: []byte{0, 9}}, api.StatusRefused)
	want(t, b, api.Tx{Addr: 5, Reg: regQueue, Read: 128}, api.StatusRefused)
	want(t, b, api.Tx{Addr: 5, Reg: regID, Read: 3}, api.StatusRefused)
	wantDev(t, b, api.Dev{Addr: 5, On: true, Period: 2, Count: 3, Next: 3})
	wantRead(t, b, regQueue, packed(raws(3)...)...)
}

// TestStalled: it is done, and nothing is told.
func TestStalled(t *testing.T) {
	b := running(t, 9, 2, api.Fault{At: 2, Kind: api.FaultStall}, api.Fault{At: 3, Kind: api.FaultStall, Index: 1, Xor: 0xff}, api.Fault{At: 4, Kind: api.FaultStall})
	tick(t, b, 8)
	want(t, b, api.Tx{Addr: 5, Reg: regQueue, Read: 9}, api.StatusStalled)
	wantDev(t, b, api.Dev{Addr: 5, On: true, Period: 2, Count: 2, Next: 4})
	want(t, b, api.Tx{Addr: 5, Reg: regPeriod, Write: []byte{7}}, api.StatusStalled)
	wantDev(t, b, api.Dev{Addr: 5, On: true, Period: 7, Count: 2, Next: 4})
	want(t, b, api.Tx{Addr: 5, Reg: regID, Read: 1}, api.StatusStalled)
	wantRead(t, b, regQueue, packed(raws(4)[2:]...)...)
}

// TestCorruptedBurst: its samples are gone, one byte is turned, wherever Index lies.
func TestCorruptedBurst(t *testing.T) {
	for _, read := range []int{1, 7, 8, 9, 24, 32, 128} {
		for _, index := range []int{0, 1, read - 1, read, read + 1, 2*read - 1, 1000, 1 << 40, math.MaxInt} {
			for _, xor := range []byte{0, 1, 0x80, 0xff} {
				b := running(t, 9, 1, api.Fault{At: 2, Kind: api.FaultCorrupt, Index: index, Xor: xor})
				tick(t, b, 3)
				data := append(packed(raws(3)...), blanks(128)...)[:read]
				want(t, b, api.Tx{Addr: 5, Reg: regQueue, Read: read}, api.StatusOK, turned(data, index%read, xor)...)
				wantRead(t, b, regCount, byte(3-min(3, (read+7)/8)))
			}
		}
	}
}

// TestCorruptedRegisters: the device itself keeps what it was.
func TestCorruptedRegisters(t *testing.T) {
	for index := range 12 {
		b := running(t, 9, 2, api.Fault{At: 2, Kind: api.FaultCorrupt, Index: index, Xor: 0xf0})
		data := []byte{0xa7, 1, 2, 0}
		want(t, b, api.Tx{Addr: 5, Read: 4}, api.StatusOK, turned(data, index%4, 0xf0)...)
		wantRead(t, b, regID, data...)
		wantDev(t, b, api.Dev{Addr: 5, On: true, Period: 2})
	}
}

// TestCorruptedWrite: there is no byte to turn, so it is as any other.
func TestCorruptedWrite(t *testing.T) {
	for _, index := range []int{0, 1, 7, math.MaxInt} {
		b := made(t, one(9), api.Fault{At: 1, Kind: api.FaultCorrupt, Index: index, Xor: 0xff})
		write(t, b, regOn, 1, 2)
		wantDev(t, b, api.Dev{Addr: 5, On: true, Period: 2})
	}
}

// TestFaultWithoutDevice: nobody answers, whatever the fault.
func TestFaultWithoutDevice(t *testing.T) {
	b := made(t, one(9), api.Fault{At: 1, Kind: api.FaultRefuse}, api.Fault{At: 2, Kind: api.FaultStall}, api.Fault{At: 3, Kind: api.FaultCorrupt, Xor: 1})
	for range 4 {
		want(t, b, api.Tx{Addr: 6, Read: 4}, api.StatusRefused)
	}
	wantRead(t, b, regID, 0xa7)
}

// TestFirstFaultCounts: of several with one At, wherever they stand.
func TestFirstFaultCounts(t *testing.T) {
	refuse := api.Fault{At: 2, Kind: api.FaultRefuse}
	stall := api.Fault{At: 2, Kind: api.FaultStall}
	corrupt := api.Fault{At: 2, Kind: api.FaultCorrupt, Xor: 1}
	other := api.Fault{At: 2, Kind: api.FaultCorrupt, Index: 1, Xor: 2}
	apart := api.Fault{At: 3, Kind: api.FaultRefuse}
	tests := []struct {
		faults []api.Fault
		status int
		data   []byte
	}{
		{[]api.Fault{refuse, stall, corrupt}, api.StatusRefused, nil},
		{[]api.Fault{stall, corrupt, refuse}, api.StatusStalled, nil},
		{[]api.Fault{corrupt, refuse, stall}, api.StatusOK, []byte{0xa6, 0}},
		{[]api.Fault{apart, other, apart, corrupt}, api.StatusOK, []byte{0xa7, 2}},
		{[]api.Fault{corrupt, other, corrupt}, api.StatusOK, []byte{0xa6, 0}},
	}
	for _, test := range tests {
		b := made(t, one(1), test.faults...)
		wantRead(t, b, regID, 0xa7, 0)
		want(t, b, api.Tx{Addr: 5, Read: 2}, test.status, test.data...)
	}
}

// TestMostFaults: as many as may be, in any order; each at its own transaction.
func TestMostFaults(t *testing.T) {
	faults := make([]api.Fault, most)
	for k := range faults {
		at := (k*2731)%most + 1 // each number once, as 2731 is odd
		faults[k] = api.Fault{At: at, Kind: api.FaultRefuse + at%3, Index: at, Xor: byte(at)}
	}
	b := made(t, one(1), faults...)
	for at := 1; at <= most; at++ {
		switch at % 3 {
		case 0:
			want(t, b, api.Tx{Addr: 5, Read: 2}, api.StatusRefused)
		case 1:
			want(t, b, api.Tx{Addr: 5, Read: 2}, api.StatusStalled)
		case 2:
			want(t, b, api.Tx{Addr: 5, Read: 2}, api.StatusOK, turned([]byte{0xa7, 0}, at%2, byte(at))...)
		}
	}
	wantRead(t, b, regID, 0xa7, 0)
}

// TestFaultsFarOff: faults behind the last transaction are not to be seen.
func TestFaultsFarOff(t *testing.T) {
	b := made(t, one(1), api.Fault{At: 6, Kind: api.FaultRefuse}, api.Fault{At: math.MaxInt, Kind: api.FaultStall, Index: math.MaxInt, Xor: 255})
	for range 5 {
		wantRead(t, b, regID, 0xa7)
	}
	want(t, b, api.Tx{Addr: 5, Read: 1}, api.StatusRefused)
	wantRead(t, b, regID, 0xa7)
}

// TestFaultWaits: what is no transaction, and ticks, use up no number, and so no fault.
func TestFaultWaits(t *testing.T) {
	b := made(t, one(1), api.Fault{At: 1, Kind: api.FaultStall})
	b.Do(api.Tx{Addr: 5})
	b.Do(api.Tx{Addr: 128, Read: 1})
	tick(t, b, 3)
	want(t, b, api.Tx{Addr: 5, Read: 1}, api.StatusStalled)
	wantRead(t, b, regID, 0xa7)
}
