package bus_test

import (
	"math/rand"
	"testing"

	"gimbal/api"
	"gimbal/bus"
)

// plain is what the chapter says of a device, its queue a plain list.
type plain struct {
	model api.Model
	dev   api.Dev
	queue []api.Raw
	ticks int
}

// plainBus is a bus beside what the chapter says of it.
type plainBus struct {
	b       *bus.Bus
	devices []*plain
	faults  []api.Fault
	count   int
}

func (p *plain) off() {
	p.dev.On, p.queue = false, nil
}

func (p *plain) write(reg int, x byte) {
	switch {
	case reg == regOn && x&1 == 0:
		p.off()
	case reg == regOn && !p.dev.On:
		p.dev.On, p.ticks = true, 0
	case reg == regPeriod:
		p.dev.Period = (int(x)+255)%256 + 1
	case reg == regReset && x == 0xb6:
		p.off()
		p.dev.Period = 1
	}
}

func (p *plain) read(reg, n int) []byte {
	var data []byte
	if reg == regQueue {
		k := min((n+7)/8, len(p.queue))
		data = append(packed(p.queue[:k]...), blanks(128)...)
		p.queue = p.queue[k:]
		return data[:n]
	}
	on := 0
	if p.dev.On {
		on = 1
	}
	whole := []int{p.model.ID, on, p.dev.Period % 256, len(p.queue)}
	for k := reg; k < reg+n; k++ {
		x := 0
		if k < len(whole) {
			x = whole[k]
		}
		data = append(data, byte(x))
	}
	return data
}

func (p *plain) tick() {
	if !p.dev.On {
		return
	}
	if p.ticks++; p.ticks < p.dev.Period {
		return
	}
	p.ticks = 0
	if len(p.model.List) == 0 {
		return
	}
	if len(p.queue) == api.HwQueue {
		p.dev.Lost++
	} else {
		p.queue = append(p.queue, p.model.List[p.dev.Next])
	}
	if p.dev.Next++; p.dev.Next == len(p.model.List) {
		p.dev.Next = 0
	}
}

// fault is the first one of the transaction in flight.
func (p *plainBus) fault() api.Fault {
	for _, f := range p.faults {
		if f.At == p.count {
			return f
		}
	}
	return api.Fault{}
}

// answer is what the transaction, which is one, is to give.
func (p *plainBus) answer(tx api.Tx) api.Answer {
	p.count++
	f := p.fault()
	var d *plain
	for _, other := range p.devices {
		if other.model.Addr == tx.Addr {
			d = other
		}
	}
	if d == nil || f.Kind == api.FaultRefuse {
		return api.Answer{Status: api.StatusRefused}
	}
	var data []byte
	for i, x := range tx.Write {
		d.write(tx.Reg+i, x)
	}
	if tx.Read > 0 {
		data = d.read(tx.Reg, tx.Read)
	}
	if f.Kind == api.FaultStall {
		return api.Answer{Status: api.StatusStalled}
	}
	if f.Kind == api.FaultCorrupt && len(data) > 0 {
		data = turned(data, f.Index%len(data), f.Xor)
	}
	return api.Answer{Status: api.StatusOK, Data: data}
}

func (p *plainBus) do(t *testing.T, tx api.Tx) {
	t.Helper()
	a := p.answer(tx)
	want(t, p.b, tx, a.Status, a.Data...)
}

func (p *plainBus) tick(t *testing.T, n int) {
	t.Helper()
	for range n {
		for _, d := range p.devices {
			d.tick()
		}
	}
	tick(t, p.b, n)
}

func (p *plainBus) check(t *testing.T) {
	t.Helper()
	for _, d := range p.devices {
		show := d.dev
		show.Count = len(d.queue)
		wantDev(t, p.b, show)
		if !show.On && show.Count != 0 {
			t.Fatalf("off, and it holds something: %+v", show)
		}
	}
	if p.b.Count() != p.count {
		t.Fatalf("Count: %d; want %d", p.b.Count(), p.count)
	}
}

// pick is one of them, by chance.
func pick[T any](rnd *rand.Rand, of ...T) T {
	return of[rnd.Intn(len(of))]
}

// someBus is one of so many devices, some of whose transactions go wrong.
func someBus(t *testing.T, rnd *rand.Rand, devices int, steps int) *plainBus {
	t.Helper()
	p := &plainBus{}
	var models []api.Model
	for i, addr := range rnd.Perm(128)[:devices] {
		m := api.Model{Addr: addr, ID: rnd.Intn(256), List: raws(pick(rnd, 0, 1, 2, 5, 40, 300))}
		for k := range m.List {
			m.List[k].X += 1000 * i
		}
		models = append(models, m)
		p.devices = append(p.devices, &plain{model: m, dev: api.Dev{Addr: addr, Period: 1}})
	}
	for range rnd.Intn(steps) {
		p.faults = append(p.faults, api.Fault{At: 1 + rnd.Intn(2*steps), Kind: 1 + rnd.Intn(3), Index: rnd.Intn(300), Xor: byte(rnd.Intn(256))})
	}
	p.b = made(t, models, p.faults...)
	return p
}

// someTx is a transaction with one of the devices mostly.
func (p *plainBus) someTx(rnd *rand.Rand) api.Tx {
	tx := api.Tx{Addr: rnd.Intn(128), Reg: rnd.Intn(6)}
	if len(p.devices) > 0 && rnd.Intn(20) > 0 {
		tx.Addr = pick(rnd, p.devices...).dev.Addr
	}
	if rnd.Intn(2) == 0 {
		tx.Reg = pick(rnd, tx.Reg, regCount, regQueue, regQueue)
		tx.Read = pick(rnd, 1, 8, 16, 128, 1+rnd.Intn(128))
		return tx
	}
	tx.Write = make([]byte, 1+rnd.Intn(8))
	for i := range tx.Write {
		tx.Write[i] = pick(rnd, 1, 1, 1, 2, 3, 0, 255, 0xb6, byte(rnd.Intn(256)))
	}
	return tx
}

func TestWalks(t *testing.T) {
	const steps = 300
	for seed := range int64(150) {
		rnd := rand.New(rand.NewSource(seed))
		p := someBus(t, rnd, int(seed)%(api.MaxDevs+1), steps)
		for range steps {
			if rnd.Intn(3) == 0 {
				p.tick(t, pick(rnd, 0, 1, 2, 3, rnd.Intn(20), rnd.Intn(20), rnd.Intn(300), api.MaxTicks))
			} else {
				p.do(t, p.someTx(rnd))
			}
			p.check(t)
		}
	}
}

// TestFaultAlone: with a fault, and with none, the answers differ at its transaction alone; and what was not done can be done again.
func TestFaultAlone(t *testing.T) {
	script := []api.Tx{
		{Addr: 5, Reg: regID, Read: 1},
		{Addr: 5, Reg: regPeriod, Write: []byte{3}},
		{Addr: 5, Reg: regOn, Write: []byte{1}},
		{Addr: 5, Reg: regCount, Read: 1},
		{Addr: 5, Reg: regPeriod, Read: 2},
		{Addr: 5, Reg: regCount, Read: 1},
	}
	whole := play(t, script, made(t, one(9)))
	for at := range script {
		for _, kind := range []int{api.FaultStall, api.FaultCorrupt} {
			got := play(t, script, made(t, one(9), api.Fault{At: at + 1, Kind: kind, Xor: 0x55}))
			for k := range got {
				same := got[k].Status == whole[k].Status && string(got[k].Data) == string(whole[k].Data)
				differs := k == at && (kind == api.FaultStall || len(whole[k].Data) > 0)
				if same == differs {
					t.Errorf("kind %d at %d: transaction %d: %+v, without it %+v", kind, at+1, k+1, got[k], whole[k])
				}
			}
		}
		again := append(append(append([]api.Tx(nil), script[:at+1]...), script[at]), script[at+1:]...)
		got := play(t, again, made(t, one(9), api.Fault{At: at + 1, Kind: api.FaultRefuse}))
		if got[at].Status != api.StatusRefused || len(got[at].Data) != 0 {
			t.Errorf("at %d: %+v", at+1, got[at])
		}
		got = append(got[:at], got[at+1:]...)
		for k := range got {
			if got[k].Status != whole[k].Status || string(got[k].Data) != string(whole[k].Data) {
				t.Errorf("refused at %d: transaction %d: %+v, without it %+v", at+1, k+1, got[k], whole[k])
			}
		}
	}
}

// play does the transactions of a script.
func play(t *testing.T, script []api.Tx, b *bus.Bus) []api.Answer {
	t.Helper()
	var all []api.Answer
	for _, tx := range script {
		a, e := b.Do(tx)
		if e != api.OK {
			t.Fatalf("Do(%+v): %v", tx, e)
		}
		all = append(all, a)
	}
	return all
}
