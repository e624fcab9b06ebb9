package bus

import (
	"math"
	"slices"

	"gimbal/api"
	"gimbal/ring"
)

// The registers of a device.
const (
	regID = iota
	regOn
	regPeriod
	regCount
	regQueue
	regReset
	lastReg = regReset
)

const (
	maxID      = 255
	maxPeriod  = 256 // as a byte it is 0
	resetByte  = 0xb6
	sampleSize = 8 // bytes
	checkSeed  = 0x5a
	noSample   = 0xff
)

// device is one on the bus.
type device struct {
	addr   int
	id     int
	list   []api.Raw
	next   int // the place in list
	on     bool
	period int
	ticks  int // since it was turned on, or the last sample was due
	queue  *ring.Ring[api.Raw]
	lost   int
}

func newDevice(m api.Model) *device {
	queue, _ := ring.New[api.Raw](api.HwQueue) // no error: a ring may be so great
	return &device{addr: m.Addr, id: m.ID, list: slices.Clone(m.List), period: 1, queue: queue}
}

func isModel(m api.Model) bool {
	if !within(m.Addr, 0, maxAddr) || !within(m.ID, 0, maxID) || len(m.List) > api.MaxList {
		return false
	}
	for _, r := range m.List {
		if !isRaw(r) {
			return false
		}
	}
	return true
}

func isRaw(r api.Raw) bool {
	return isWord(r.X) && isWord(r.Y) && isWord(r.Z) && within(r.T, math.MinInt8, math.MaxInt8)
}

// isWord tells whether x has room in the two bytes of a sample.
func isWord(x int) bool {
	return within(x, math.MinInt16, math.MaxInt16)
}

// do does the transaction; it tells the data of a read.
func (d *device) do(t api.Tx) []byte {
	if len(t.Write) > 0 {
		for i, x := range t.Write {
			d.write(t.Reg+i, x)
		}
		return nil
	}
	if t.Reg == regQueue {
		return d.burst(t.Read)
	}
	data := make([]byte, t.Read)
	for i := range data {
		data[i] = d.read(t.Reg + i)
	}
	return data
}

// write lays a byte into a register.
func (d *device) write(reg int, x byte) {
	switch reg {
	case regOn:
		d.turn(x%2 == 1)
	case regPeriod:
		d.period = int(x)
		if x == 0 {
			d.period = maxPeriod
		}
	case regReset:
		if x == resetByte {
			d.reset()
		}
	}
}

// turn turns the device on or off.
func (d *device) turn(on bool) {
	if !on {
		d.queue.Clear()
	} else if !d.on {
		d.ticks = 0
	}
	d.on = on
}

func (d *device) reset() {
	d.turn(false)
	d.period = 1
}

// read is the byte of a register; of the queue's it is 0, since a read takes samples out only where it begins there.
func (d *device) read(reg int) byte {
	switch reg {
	case regID:
		return byte(d.id)
	case regOn:
		if d.on {
			return 1
		}
	case regPeriod:
		return byte(d.period)
	case regCount:
		return byte(d.queue.Len())
	}
	return 0
}

// burst takes samples out of the queue till there are n bytes; a sample of which only a part is told is gone too.
func (d *device) burst(n int) []byte {
	var data []byte
	for len(data) < n {
		r, there := d.queue.Pop()
		sample := pack(r)
		if !there {
			sample = blank()
		}
		data = append(data, sample[:]...)
	}
	return data[:n]
}

// pack is the bytes of a sample.
func pack(r api.Raw) [sampleSize]byte {
	s := [sampleSize]byte{high(r.X), byte(r.X), high(r.Y), byte(r.Y), high(r.Z), byte(r.Z), byte(r.T)}
	check := byte(checkSeed)
	for _, x := range s[:sampleSize-1] {
		check ^= x
	}
	s[sampleSize-1] = check
	return s
}

// high is the higher byte of a number of 16 bits.
func high(x int) byte {
	return byte(x >> 8)
}

// blank is the bytes where there is no sample.
func blank() [sampleSize]byte {
	var s [sampleSize]byte
	for i := range s {
		s[i] = noSample
	}
	return s
}

// tick lets a tick pass.
func (d *device) tick() {
	if !d.on {
		return
	}
	d.ticks++
	if d.ticks >= d.period { // above it where the period became less on the way
		d.ticks = 0
		d.measure()
	}
}

// measure takes the next sample of the list.
func (d *device) measure() {
	if len(d.list) == 0 {
		return
	}
	if d.queue.Len() < d.queue.Cap() {
		d.queue.Push(d.list[d.next])
	} else {
		d.lost++
	}
	d.next = (d.next + 1) % len(d.list)
}

func (d *device) show() api.Dev {
	return api.Dev{Addr: d.addr, On: d.on, Period: d.period, Count: d.queue.Len(), Lost: d.lost, Next: d.next}
}
