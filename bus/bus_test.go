package bus_test

import (
	"bytes"
	"math"
	"slices"
	"testing"

	"gimbal/api"
	"gimbal/bus"
)

const (
	most      = 1 << 12 // faults
	regID     = 0
	regOn     = 1
	regPeriod = 2
	regCount  = 3
	regQueue  = 4
	regReset  = 5
)

// raws is n samples, each another one.
func raws(n int) []api.Raw {
	list := make([]api.Raw, n)
	for k := range list {
		list[k] = api.Raw{X: k, Y: -k - 1, Z: 7 * k % 1000, T: k%256 - 128}
	}
	return list
}

// one is a model at the address 5 with the identity 0xa7 and n samples.
func one(n int) []api.Model {
	return []api.Model{{Addr: 5, ID: 0xa7, List: raws(n)}}
}

func made(t *testing.T, models []api.Model, faults ...api.Fault) *bus.Bus {
	t.Helper()
	b, e := bus.New(models, faults)
	if e != api.OK || b == nil {
		t.Fatalf("New: %v, %v", b, e)
	}
	return b
}

// running is a bus with the device of one(n), on, with that period; its transactions so far: 1.
func running(t *testing.T, n int, period byte, faults ...api.Fault) *bus.Bus {
	t.Helper()
	b := made(t, one(n), faults...)
	write(t, b, regOn, 1, period)
	return b
}

// want does the transaction, and holds its answer against what is wanted.
func want(t *testing.T, b *bus.Bus, tx api.Tx, status int, data ...byte) {
	t.Helper()
	count := b.Count()
	a, e := b.Do(tx)
	if e != api.OK || a.Status != status || !bytes.Equal(a.Data, data) {
		t.Fatalf("Do(%+v): %d, %x, %v; want %d, %x", tx, a.Status, a.Data, e, status, data)
	}
	if b.Count() != count+1 {
		t.Fatalf("Count: %d behind %d", b.Count(), count)
	}
}

// write and wantRead ask the device at 5, and want StatusOK.
func write(t *testing.T, b *bus.Bus, reg int, data ...byte) {
	t.Helper()
	want(t, b, api.Tx{Addr: 5, Reg: reg, Write: data}, api.StatusOK)
}

func wantRead(t *testing.T, b *bus.Bus, reg int, data ...byte) {
	t.Helper()
	want(t, b, api.Tx{Addr: 5, Reg: reg, Read: len(data)}, api.StatusOK, data...)
}

func tick(t *testing.T, b *bus.Bus, n int) {
	t.Helper()
	if e := b.Tick(n); e != api.OK {
		t.Fatalf("Tick(%d): %v", n, e)
	}
}

func wantDev(t *testing.T, b *bus.Bus, want api.Dev) {
	t.Helper()
	if got, e := b.Dev(want.Addr); e != api.OK || got != want {
		t.Fatalf("Dev(%d): %+v, %v; want %+v", want.Addr, got, e, want)
	}
}

// packed is the bytes of samples, told by the words of the chapter.
func packed(list ...api.Raw) []byte {
	var all []byte
	for _, r := range list {
		check := 0x5a
		for _, x := range []int{r.X, r.Y, r.Z} {
			x = (x + 1<<16) % (1 << 16)
			all = append(all, byte(x/256), byte(x%256))
			check ^= x/256 ^ x%256
		}
		temperature := (r.T + 256) % 256
		all = append(all, byte(temperature), byte(check^temperature))
	}
	return all
}

// blanks is n bytes where there is no sample.
func blanks(n int) []byte {
	return bytes.Repeat([]byte{0xff}, n)
}

// TestExample is that of the chapter.
func TestExample(t *testing.T) {
	b := running(t, 1, 1)
	wantRead(t, b, regID, 0xa7)
	tick(t, b, 1)
	wantRead(t, b, regQueue, packed(raws(1)...)...)
	wantRead(t, b, regQueue, blanks(8)...)
}

func TestNoDevice(t *testing.T) {
	for _, models := range [][]api.Model{nil, {}} {
		b := made(t, models)
		for addr := range 128 {
			want(t, b, api.Tx{Addr: addr, Read: 1}, api.StatusRefused)
			want(t, b, api.Tx{Addr: addr, Reg: regOn, Write: []byte{1}}, api.StatusRefused)
			if d, e := b.Dev(addr); d != (api.Dev{}) || e != api.ErrNone {
				t.Fatalf("Dev(%d): %+v, %v", addr, d, e)
			}
		}
		tick(t, b, api.MaxTicks)
		if b.Count() != 256 {
			t.Errorf("Count: %d", b.Count())
		}
	}
}

// TestMostDevices: as many as may be, at the least and the greatest address, with the least and the greatest identity; each is one of its own.
func TestMostDevices(t *testing.T) {
	ids := []int{255, 0, 1, 127, 128, 254, 0, 255}
	addrs := []int{127, 0, 64, 1, 126, 3, 2, 63}
	var models []api.Model
	for i, addr := range addrs {
		models = append(models, api.Model{Addr: addr, ID: ids[i], List: raws(40)[i:]})
	}
	if len(models) != api.MaxDevs {
		t.Fatal(len(models))
	}
	b := made(t, models)
	for i, addr := range addrs {
		want(t, b, api.Tx{Addr: addr, Read: 1}, api.StatusOK, byte(ids[i]))
		wantDev(t, b, api.Dev{Addr: addr, Period: 1})
	}
	for i, addr := range addrs[1:] { // all but the first one, each with a period of its own
		want(t, b, api.Tx{Addr: addr, Reg: regOn, Write: []byte{1, byte(i + 2)}}, api.StatusOK)
	}
	tick(t, b, 17)
	wantDev(t, b, api.Dev{Addr: addrs[0], Period: 1})
	for i, addr := range addrs[1:] {
		n := 17 / (i + 2)
		wantDev(t, b, api.Dev{Addr: addr, On: true, Period: i + 2, Count: n, Next: n})
		want(t, b, api.Tx{Addr: addr, Reg: regQueue, Read: 8}, api.StatusOK, packed(raws(40)[i+1])...)
		wantDev(t, b, api.Dev{Addr: addr, On: true, Period: i + 2, Count: n - 1, Next: n})
	}
	want(t, b, api.Tx{Addr: 4, Read: 1}, api.StatusRefused)
}

// TestSampleBounds: each of a sample's numbers at its bounds, byte by byte.
func TestSampleBounds(t *testing.T) {
	tests := []struct {
		raw  api.Raw
		data []byte
	}{
		{api.Raw{}, []byte{0, 0, 0, 0, 0, 0, 0, 0x5a}},
		{api.Raw{X: -1 << 15, Y: 1<<15 - 1, Z: -1, T: -128}, []byte{0x80, 0, 0x7f, 0xff, 0xff, 0xff, 0x80, 0xda}},
		{api.Raw{X: 1<<15 - 1, Y: -1, Z: -1 << 15, T: 127}, []byte{0x7f, 0xff, 0xff, 0xff, 0x80, 0, 0x7f, 0x25}},
		{api.Raw{X: -1, Y: -1 << 15, Z: 1<<15 - 1, T: -1}, []byte{0xff, 0xff, 0x80, 0, 0x7f, 0xff, 0xff, 0xa5}},
		{api.Raw{X: 0x1234, Y: 255, Z: 256, T: 1}, []byte{0x12, 0x34, 0, 0xff, 1, 0, 1, 0x83}},
		{api.Raw{X: -256, Y: -257, Z: -0x1234, T: -2}, []byte{0xff, 0, 0xfe, 0xff, 0xed, 0xcc, 0xfe, 0x7b}},
	}
	for _, test := range tests {
		b := made(t, []api.Model{{Addr: 5, List: []api.Raw{test.raw}}})
		write(t, b, regOn, 1)
		tick(t, b, 1)
		wantRead(t, b, regQueue, test.data...)
		if !bytes.Equal(packed(test.raw), test.data) {
			t.Errorf("packed(%+v): %x", test.raw, packed(test.raw))
		}
	}
}

// TestMostSamples: all of the longest list, in order, and then its first one again.
func TestMostSamples(t *testing.T) {
	list := raws(api.MaxList)
	b := running(t, api.MaxList, 1)
	for k := 0; k < api.MaxList; k += api.HwQueue {
		tick(t, b, api.HwQueue)
		wantRead(t, b, regQueue, packed(list[k:k+api.HwQueue]...)...)
	}
	wantDev(t, b, api.Dev{Addr: 5, On: true, Period: 1})
	tick(t, b, 1)
	wantRead(t, b, regQueue, packed(list[0])...)
	wantDev(t, b, api.Dev{Addr: 5, On: true, Period: 1, Next: 1})
}

// TestBehindTheLast: behind the last sample comes the first one, however short the list.
func TestBehindTheLast(t *testing.T) {
	for n := 1; n <= 5; n++ {
		b := running(t, n, 1)
		for k := range 3 * n {
			wantDev(t, b, api.Dev{Addr: 5, On: true, Period: 1, Next: k % n})
			tick(t, b, 1)
			wantRead(t, b, regQueue, packed(raws(n)[k%n])...)
		}
	}
}

func TestEmptyList(t *testing.T) {
	b := running(t, 0, 1)
	for range 3 {
		tick(t, b, 100)
		wantDev(t, b, api.Dev{Addr: 5, On: true, Period: 1})
		wantRead(t, b, regQueue, blanks(16)...)
		wantRead(t, b, regCount, 0)
	}
}

// TestReadRegisters: from each register but the queue's, as many bytes as may be.
func TestReadRegisters(t *testing.T) {
	b := running(t, 3, 9)
	tick(t, b, 2*9)
	whole := []byte{0xa7, 1, 9, 2, 0, 0}
	for _, reg := range []int{regID, regOn, regPeriod, regCount, regReset} {
		for n := 1; n <= 128; n++ {
			data := append(slices.Clone(whole[reg:]), make([]byte, 128)...)
			wantRead(t, b, reg, data[:n]...)
		}
	}
	wantDev(t, b, api.Dev{Addr: 5, On: true, Period: 9, Count: 2, Next: 2}) // a read that runs over the queue takes nothing out
}

func TestReadWhileOff(t *testing.T) {
	b := made(t, one(3))
	wantRead(t, b, regID, 0xa7, 0, 1, 0, 0, 0, 0)
	wantRead(t, b, regQueue, blanks(128)...)
	wantDev(t, b, api.Dev{Addr: 5, Period: 1})
}

// TestBursts: reads of every length from the queue take out as many samples as they touch.
func TestBursts(t *testing.T) {
	list := raws(api.HwQueue)
	for held := range api.HwQueue + 1 {
		for n := 1; n <= 128; n++ {
			b := running(t, api.HwQueue, 1)
			tick(t, b, held)
			taken := min((n+7)/8, held)
			data := append(packed(list[:held]...), blanks(128)...)
			wantRead(t, b, regQueue, data[:n]...)
			wantRead(t, b, regCount, byte(held-taken))
			wantRead(t, b, regQueue, append(packed(list[taken:held]...), blanks(128)...)[:128]...)
			wantRead(t, b, regCount, 0)
		}
	}
}

// TestBurstsInParts: what is left of a sample that was told in part is gone.
func TestBurstsInParts(t *testing.T) {
	list := raws(8)
	b := running(t, 8, 1)
	tick(t, b, 8)
	wantRead(t, b, regQueue, packed(list[0])[:1]...)
	wantRead(t, b, regQueue, packed(list[1])[:7]...)
	wantRead(t, b, regQueue, packed(list[2])...)
	wantRead(t, b, regQueue, packed(list[3:5]...)[:9]...)
	wantRead(t, b, regQueue, packed(list[5:7]...)[:15]...)
	wantRead(t, b, regQueue, append(packed(list[7]), blanks(3)...)...)
	wantRead(t, b, regQueue, blanks(1)...)
}

// TestOnAndOff: by the last bit of each byte alone.
func TestOnAndOff(t *testing.T) {
	for x := range 256 {
		for _, first := range []byte{0, 1} {
			b := made(t, one(20))
			write(t, b, regOn, first)
			tick(t, b, 3)
			write(t, b, regOn, byte(x))
			d := api.Dev{Addr: 5, On: x%2 == 1, Period: 1, Next: 3 * int(first)}
			if x%2 == 1 {
				d.Count = d.Next
			}
			wantDev(t, b, d)
			wantRead(t, b, regOn, byte(x%2), 1, byte(d.Count))
		}
	}
}

// TestOnAgain: turned on when it is on, it keeps what it holds, and its count of ticks.
func TestOnAgain(t *testing.T) {
	b := running(t, 9, 10)
	tick(t, b, 19)
	write(t, b, regOn, 3)
	wantDev(t, b, api.Dev{Addr: 5, On: true, Period: 10, Count: 1, Next: 1})
	tick(t, b, 1)
	wantDev(t, b, api.Dev{Addr: 5, On: true, Period: 10, Count: 2, Next: 2})
}

// TestOffAndOn: its ticks are counted from 0, its samples go on where they were, its period stays.
func TestOffAndOn(t *testing.T) {
	b := running(t, 9, 10)
	tick(t, b, 29)
	write(t, b, regOn, 2)
	wantDev(t, b, api.Dev{Addr: 5, Period: 10, Next: 2})
	tick(t, b, 500)
	wantDev(t, b, api.Dev{Addr: 5, Period: 10, Next: 2})
	write(t, b, regOn, 1)
	tick(t, b, 9)
	wantDev(t, b, api.Dev{Addr: 5, On: true, Period: 10, Next: 2})
	tick(t, b, 1)
	wantDev(t, b, api.Dev{Addr: 5, On: true, Period: 10, Count: 1, Next: 3})
	wantRead(t, b, regQueue, packed(raws(9)[2])...)
}

func TestPeriods(t *testing.T) {
	for x := range 256 {
		period := x
		if x == 0 {
			period = 256
		}
		b := running(t, 9, byte(x))
		wantRead(t, b, regPeriod, byte(x), 0)
		for k := range 2 {
			tick(t, b, period-1)
			wantDev(t, b, api.Dev{Addr: 5, On: true, Period: period, Count: k, Next: k})
			tick(t, b, 1)
			wantDev(t, b, api.Dev{Addr: 5, On: true, Period: period, Count: k + 1, Next: k + 1})
		}
	}
}

// TestPeriodOnTheWay: another period keeps the count of ticks; at one below that count there is a sample at the next tick, one alone.
func TestPeriodOnTheWay(t *testing.T) {
	b := running(t, 9, 100)
	tick(t, b, 50)
	write(t, b, regPeriod, 60)
	tick(t, b, 9)
	wantRead(t, b, regCount, 0)
	tick(t, b, 1)
	wantRead(t, b, regCount, 1)
	tick(t, b, 45)
	write(t, b, regPeriod, 7)
	tick(t, b, 0)
	wantRead(t, b, regCount, 1)
	tick(t, b, 1)
	wantRead(t, b, regCount, 2)
	tick(t, b, 6)
	wantRead(t, b, regCount, 2)
	tick(t, b, 1)
	wantRead(t, b, regCount, 3)
}

// TestPeriodWhileOff: it may be written while it is off, and holds when it is turned on.
func TestPeriodWhileOff(t *testing.T) {
	b := made(t, one(9))
	write(t, b, regPeriod, 5)
	wantDev(t, b, api.Dev{Addr: 5, Period: 5})
	write(t, b, regOn, 1)
	tick(t, b, 9)
	wantDev(t, b, api.Dev{Addr: 5, On: true, Period: 5, Count: 1, Next: 1})
}

// TestReset: by one byte alone; what it lost, and which sample is next, stay.
func TestReset(t *testing.T) {
	for x := range 256 {
		b := running(t, 9, 2)
		tick(t, b, 2*(api.HwQueue+3))
		write(t, b, regReset, byte(x))
		d := api.Dev{Addr: 5, On: true, Period: 2, Count: api.HwQueue, Lost: 3, Next: (api.HwQueue + 3) % 9}
		if x == 0xb6 {
			d = api.Dev{Addr: 5, Period: 1, Lost: 3, Next: d.Next}
		}
		wantDev(t, b, d)
	}
}

func TestResetWhileOff(t *testing.T) {
	b := made(t, one(9))
	write(t, b, regPeriod, 5)
	write(t, b, regReset, 0xb6)
	wantDev(t, b, api.Dev{Addr: 5, Period: 1})
}

// TestWriteNothing: a byte to a register that takes none, be it any.
func TestWriteNothing(t *testing.T) {
	for _, reg := range []int{regID, regCount, regQueue} {
		for x := range 256 {
			b := running(t, 9, 3)
			tick(t, b, 6)
			write(t, b, reg, byte(x))
			wantRead(t, b, regID, 0xa7, 1, 3, 2, 0)
			wantRead(t, b, regQueue, packed(raws(2)...)...)
		}
	}
}

// TestWriteSeveral: the bytes go to the registers one by one, and past the last one into nothing.
func TestWriteSeveral(t *testing.T) {
	on := api.Dev{Addr: 5, On: true, Period: 2, Count: 3, Next: 3}
	tests := []struct {
		reg  int
		data []byte
		want api.Dev
	}{
		{regID, []byte{9}, on},
		{regID, []byte{9, 0}, api.Dev{Addr: 5, Period: 2, Next: 3}},
		{regID, []byte{0, 1, 8}, api.Dev{Addr: 5, On: true, Period: 8, Count: 3, Next: 3}},
		{regID, []byte{0, 1, 8, 1, 1, 1, 0xb6, 0xb6}, api.Dev{Addr: 5, On: true, Period: 8, Count: 3, Next: 3}},
		{regID, []byte{0, 1, 8, 1, 1, 0xb6, 1, 8}, api.Dev{Addr: 5, Period: 1, Next: 3}},
		{regOn, []byte{1, 0, 0, 0}, api.Dev{Addr: 5, On: true, Period: 256, Count: 3, Next: 3}},
		{regOn, []byte{0, 7}, api.Dev{Addr: 5, Period: 7, Next: 3}},
		{regOn, []byte{2, 255, 0xb6, 0xb6, 0, 1, 1, 1}, api.Dev{Addr: 5, Period: 255, Next: 3}},
		{regPeriod, []byte{4, 0xb6, 0xb6, 5}, api.Dev{Addr: 5, On: true, Period: 4, Count: 3, Next: 3}},
		{regPeriod, []byte{4, 0, 0, 0xb6}, api.Dev{Addr: 5, Period: 1, Next: 3}},
		{regCount, []byte{0xb6, 0xb6, 0xb5, 0, 0, 0, 0, 0}, on},
		{regCount, []byte{0, 0, 0xb6}, api.Dev{Addr: 5, Period: 1, Next: 3}},
		{regQueue, []byte{0xb6}, on},
		{regQueue, []byte{1, 2, 3, 4, 5, 6, 7, 8}, on},
		{regQueue, []byte{1, 0xb6}, api.Dev{Addr: 5, Period: 1, Next: 3}},
		{regReset, []byte{0, 0xb6, 0xb6, 0xb6, 0xb6, 0xb6, 0xb6, 0xb6}, on},
		{regReset, []byte{0xb6, 1, 1, 1, 1, 1, 1, 1}, api.Dev{Addr: 5, Period: 1, Next: 3}},
	}
	for _, test := range tests {
		b := running(t, 9, 2)
		tick(t, b, 6)
		write(t, b, test.reg, test.data...)
		wantDev(t, b, test.want)
	}
}

// TestFullQueue: as many as it has room for; then the new one is lost, and those that wait stay.
func TestFullQueue(t *testing.T) {
	list := raws(100)
	b := running(t, 100, 1)
	tick(t, b, api.HwQueue)
	wantDev(t, b, api.Dev{Addr: 5, On: true, Period: 1, Count: api.HwQueue, Next: api.HwQueue})
	tick(t, b, 1)
	wantDev(t, b, api.Dev{Addr: 5, On: true, Period: 1, Count: api.HwQueue, Lost: 1, Next: api.HwQueue + 1})
	wantRead(t, b, regCount, api.HwQueue)
	wantRead(t, b, regQueue, packed(list[0])...)
	tick(t, b, 2)
	wantDev(t, b, api.Dev{Addr: 5, On: true, Period: 1, Count: api.HwQueue, Lost: 2, Next: api.HwQueue + 3})
	wantRead(t, b, regQueue, packed(append(slices.Clone(list[1:api.HwQueue]), list[api.HwQueue+1])...)...)
	wantRead(t, b, regQueue, blanks(8)...)
	write(t, b, regOn, 0)
	write(t, b, regOn, 1)
	wantDev(t, b, api.Dev{Addr: 5, On: true, Period: 1, Lost: 2, Next: api.HwQueue + 3})
}

// TestTicksInParts: so many ticks in one go, or one by one, or in parts.
func TestTicksInParts(t *testing.T) {
	for _, period := range []byte{1, 3, 7, 250, 0} {
		parts := [][]int{{api.MaxTicks}, {0, 1, api.MaxTicks - 1, 0}, {999, 1}, {333, 333, 334}, slices.Repeat([]int{1}, api.MaxTicks)}
		var whole api.Dev
		for i, part := range parts {
			b := running(t, 11, period)
			for _, n := range part {
				tick(t, b, n)
			}
			d, _ := b.Dev(5)
			if i == 0 {
				whole = d
			}
			wantDev(t, b, whole)
			due := api.MaxTicks / d.Period
			if d.Count+d.Lost != due || d.Count != min(due, api.HwQueue) || d.Next != due%11 {
				t.Errorf("period %d: %+v", period, d)
			}
		}
	}
}

func TestTicksZero(t *testing.T) {
	b := running(t, 9, 1)
	for range 5 {
		tick(t, b, 0)
		wantDev(t, b, api.Dev{Addr: 5, On: true, Period: 1})
	}
}

// TestTicksWrong: nothing has passed.
func TestTicksWrong(t *testing.T) {
	b := running(t, 9, 3)
	tick(t, b, 5)
	for _, n := range []int{-1, -api.MaxTicks, math.MinInt, api.MaxTicks + 1, 1 << 32, 1<<32 + 1, math.MaxInt} {
		if e := b.Tick(n); e != api.ErrForm {
			t.Errorf("Tick(%d): %v", n, e)
		}
		wantDev(t, b, api.Dev{Addr: 5, On: true, Period: 3, Count: 1, Next: 1})
	}
	tick(t, b, 1)
	wantDev(t, b, api.Dev{Addr: 5, On: true, Period: 3, Count: 2, Next: 2})
}

func TestDevWrong(t *testing.T) {
	b := made(t, []api.Model{{Addr: 0, ID: 1}, {Addr: 127, ID: 2}, {Addr: 5}})
	for _, addr := range []int{-1, -127, math.MinInt, 1, 4, 6, 126, 128, 255, 256, 1 << 32, math.MaxInt} {
		if d, e := b.Dev(addr); d != (api.Dev{}) || e != api.ErrNone {
			t.Errorf("Dev(%d): %+v, %v", addr, d, e)
		}
	}
	for _, addr := range []int{0, 5, 127} {
		wantDev(t, b, api.Dev{Addr: addr, Period: 1})
	}
}

// TestCount: of transactions alone, whatever became of them.
func TestCount(t *testing.T) {
	b := made(t, one(3), api.Fault{At: 2, Kind: api.FaultRefuse}, api.Fault{At: 3, Kind: api.FaultStall}, api.Fault{At: 4, Kind: api.FaultCorrupt})
	if b.Count() != 0 {
		t.Errorf("%d at first", b.Count())
	}
	for k := 1; k <= 10; k++ {
		b.Do(api.Tx{Addr: k, Read: 1})
		b.Do(api.Tx{Addr: k})
		b.Tick(k)
		b.Dev(k)
		if b.Count() != k || b.Count() != k {
			t.Errorf("%d: %d", k, b.Count())
		}
	}
}
