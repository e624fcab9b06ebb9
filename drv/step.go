package drv

import (
	"slices"

	"gimbal/api"
	"gimbal/table"
	"gimbal/wire"
)

// step is what a driver does in a state; without a transaction all of it is nil.
type step struct {
	ask  func(d api.Drv) api.Tx                            // its transaction
	fits func(d api.Drv, data []byte) bool                 // whether the bytes, as many as were asked for, can be right
	take func(d api.Drv, data []byte) (api.Drv, []api.Raw) // what becomes of it by a good answer, and its samples
}

// steps are those of the states, each at its state.
func steps() table.Rows[step] {
	return table.Rows[step]{
		api.DrvOff:    {},
		api.DrvID:     {ask: askID, fits: isOwn, take: known},
		api.DrvPeriod: {ask: askPeriod, fits: isAny, take: timed},
		api.DrvStart:  {ask: askStart, fits: isAny, take: started},
		api.DrvOn:     {ask: askCount, fits: isCount, take: counted},
		api.DrvBurst:  {ask: askSamples, fits: isAny, take: sampled},
		api.DrvStop:   {ask: askStop, fits: isAny, take: stopped},
		api.DrvReset:  {ask: askReset, fits: isAny, take: renewed},
		api.DrvFailed: {},
	}
}

// asking is what the driver does in its state; false, if it has no transaction there.
func asking(d api.Drv) (step, bool) {
	s, there := steps().At(d.State)
	return s, there && s.ask != nil
}

func askID(d api.Drv) api.Tx {
	return read(d, wire.RegID, 1)
}

func askPeriod(d api.Drv) api.Tx {
	return write(d, wire.RegPeriod, byte(d.Period))
}

func askStart(d api.Drv) api.Tx {
	return write(d, wire.RegOn, 1)
}

func askCount(d api.Drv) api.Tx {
	return read(d, wire.RegCount, 1)
}

func askSamples(d api.Drv) api.Tx {
	return read(d, wire.RegQueue, wire.SampleSize*d.Left)
}

func askStop(d api.Drv) api.Tx {
	return write(d, wire.RegOn, 0)
}

func askReset(d api.Drv) api.Tx {
	return write(d, wire.RegReset, wire.ResetByte)
}

// read is the transaction that reads n bytes from a register on.
func read(d api.Drv, reg, n int) api.Tx {
	return api.Tx{Addr: d.Addr, Reg: reg, Read: n}
}

// write is the transaction that writes a byte to a register.
func write(d api.Drv, reg int, x byte) api.Tx {
	return api.Tx{Addr: d.Addr, Reg: reg, Write: []byte{x}}
}

func isOwn(d api.Drv, data []byte) bool {
	return int(data[0]) == d.ID
}

func isCount(_ api.Drv, data []byte) bool {
	return data[0] <= api.HwQueue
}

func isAny(api.Drv, []byte) bool {
	return true
}

func known(d api.Drv, _ []byte) (api.Drv, []api.Raw) {
	return enter(d, api.DrvPeriod), nil
}

func timed(d api.Drv, _ []byte) (api.Drv, []api.Raw) {
	return enter(d, api.DrvStart), nil
}

func started(d api.Drv, _ []byte) (api.Drv, []api.Raw) {
	d.Tried = false
	return enter(d, api.DrvOn), nil
}

func counted(d api.Drv, data []byte) (api.Drv, []api.Raw) {
	left := int(data[0])
	if left == 0 {
		return enter(d, api.DrvOn), nil
	}
	d = enter(d, api.DrvBurst)
	d.Left = left
	return d, nil
}

func sampled(d api.Drv, data []byte) (api.Drv, []api.Raw) {
	var raws []api.Raw
	for sample := range slices.Chunk(data, wire.SampleSize) {
		r, right := wire.Unpack(sample)
		if right {
			raws = append(raws, r)
		} else if d.Bad < api.MaxClock {
			d.Bad++
		}
	}
	return enter(d, api.DrvOn), raws
}

func stopped(d api.Drv, _ []byte) (api.Drv, []api.Raw) {
	d.Tried = false
	return enter(d, api.DrvOff), nil
}

// renewed is the driver behind a reset: it begins anew with what is wanted.
func renewed(d api.Drv, _ []byte) (api.Drv, []api.Raw) {
	d.Tried = true
	if d.Want {
		return enter(d, api.DrvID), nil
	}
	return enter(d, api.DrvStop), nil
}
