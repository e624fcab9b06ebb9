package bus

import (
	"slices"

	"gimbal/api"
	"gimbal/ring"
	"gimbal/wire"
)

const (
	maxPeriod = 256 // as a byte it is 0
	noSample  = 0xff
)

// device is one on the bus.
type device struct {
	addr   int
	id     int
	list   []api.Raw
	next   int // the place in list
	on     bool
	period int
	ticks  int // since it was turned on, or the last sample was due
	queue  *ring.Ring[api.Raw]
	lost   int
}

func newDevice(m api.Model) *device {
	queue, _ := ring.New[api.Raw](api.HwQueue) // no error: a ring may be so great
	return &device{addr: m.Addr, id: m.ID, list: slices.Clone(m.List), period: 1, queue: queue}
}

func isModel(m api.Model) bool {
	if !wire.IsAddr(m.Addr) || !wire.IsID(m.ID) || len(m.List) > api.MaxList {
		return false
	}
	for _, r := range m.List {
		if !wire.IsRaw(r) {
			return false
		}
	}
	return true
}

// do does the transaction; it tells the data of a read.
func (d *device) do(t api.Tx) []byte {
	if len(t.Write) > 0 {
		for i, x := range t.Write {
			d.write(t.Reg+i, x)
		}
		return nil
	}
	if t.Reg == wire.RegQueue {
		return d.burst(t.Read)
	}
	data := make([]byte, t.Read)
	for i := range data {
		data[i] = d.read(t.Reg + i)
	}
	return data
}

// write lays a byte into a register.
func (d *device) write(reg int, x byte) {
	switch reg {
	case wire.RegOn:
		d.turn(x%2 == 1)
	case wire.RegPeriod:
		d.period = int(x)
		if x == 0 {
			d.period = maxPeriod
		}
	case wire.RegReset:
		if x == wire.ResetByte {
			d.reset()
		}
	}
}

// turn turns the device on or off.
func (d *device) turn(on bool) {
	if !on {
		d.queue.Clear()
	} else if !d.on {
		d.ticks = 0
	}
	d.on = on
}

func (d *device) reset() {
	d.turn(false)
	d.period = 1
}

// read is the byte of a register; of the queue's it is 0, since a read takes samples out only where it begins there.
func (d *device) read(reg int) byte {
	switch reg {
	case wire.RegID:
		return byte(d.id)
	case wire.RegOn:
		if d.on {
			return 1
		}
	case wire.RegPeriod:
		return byte(d.period)
	case wire.RegCount:
		return byte(d.queue.Len())
	}
	return 0
}

// burst takes samples out of the queue till there are n bytes; a sample of which only a part is told is gone too.
func (d *device) burst(n int) []byte {
	var data []byte
	for len(data) < n {
		r, there := d.queue.Pop()
		sample := wire.Pack(r)
		if !there {
			sample = blank()
		}
		data = append(data, sample[:]...)
	}
	return data[:n]
}

// blank is the bytes where there is no sample.
func blank() [wire.SampleSize]byte {
	var s [wire.SampleSize]byte
	for i := range s {
		s[i] = noSample
	}
	return s
}

// tick lets a tick pass.
func (d *device) tick() {
	if !d.on {
		return
	}
	d.ticks++
	if d.ticks >= d.period { // above it where the period became less on the way
		d.ticks = 0
		d.measure()
	}
}

// measure takes the next sample of the list.
func (d *device) measure() {
	if len(d.list) == 0 {
		return
	}
	if d.queue.Len() < d.queue.Cap() {
		d.queue.Push(d.list[d.next])
	} else {
		d.lost++
	}
	d.next = (d.next + 1) % len(d.list)
}

func (d *device) show() api.Dev {
	return api.Dev{Addr: d.addr, On: d.on, Period: d.period, Count: d.queue.Len(), Lost: d.lost, Next: d.next}
}
