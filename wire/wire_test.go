package wire_test

import (
	"bytes"
	"math"
	"slices"
	"testing"

	"gimbal/api"
	"gimbal/wire"
)

// words is numbers of 16 bits, at their bounds and at those of their bytes.
func words() []int {
	return []int{math.MinInt16, math.MinInt16 + 1, -0x1234, -257, -256, -255, -129, -128, -1, 0, 1, 127, 128, 255, 256, 257, 0x1234, math.MaxInt16 - 1, math.MaxInt16}
}

func TestRegisters(t *testing.T) {
	got := []int{wire.RegID, wire.RegOn, wire.RegPeriod, wire.RegCount, wire.RegQueue, wire.RegReset, wire.LastReg, wire.ResetByte, wire.SampleSize}
	if want := []int{0, 1, 2, 3, 4, 5, 5, 0xb6, 8}; !slices.Equal(got, want) {
		t.Errorf("%v; want %v", got, want)
	}
}

// TestBytes: samples whose bytes were reckoned by hand, there and back.
func TestBytes(t *testing.T) {
	tests := []struct {
		raw  api.Raw
		data []byte
	}{
		{api.Raw{}, []byte{0, 0, 0, 0, 0, 0, 0, 0x5a}},
		{api.Raw{X: 1, Y: -1, Z: 300}, []byte{0, 1, 0xff, 0xff, 1, 0x2c, 0, 0x76}},
		{api.Raw{X: -1 << 15, Y: 1<<15 - 1, Z: -1, T: -128}, []byte{0x80, 0, 0x7f, 0xff, 0xff, 0xff, 0x80, 0xda}},
		{api.Raw{X: 1<<15 - 1, Y: -1, Z: -1 << 15, T: 127}, []byte{0x7f, 0xff, 0xff, 0xff, 0x80, 0, 0x7f, 0x25}},
	}
	for _, test := range tests {
		if got := wire.Pack(test.raw); !bytes.Equal(got[:], test.data) {
			t.Errorf("Pack(%+v): %x", test.raw, got)
		}
		if got, right := wire.Unpack(test.data); !right || got != test.raw {
			t.Errorf("Unpack(%x): %+v, %v", test.data, got, right)
		}
	}
}

// TestThereAndBack: what is packed is unpacked as it was, each number at each of its places.
func TestThereAndBack(t *testing.T) {
	for _, x := range words() {
		for _, y := range words() {
			for temperature := math.MinInt8; temperature <= math.MaxInt8; temperature++ {
				for _, r := range []api.Raw{{X: x, Y: y, T: temperature}, {Y: x, Z: y, T: temperature}, {Z: x, X: y, T: temperature}} {
					s := wire.Pack(r)
					if got, right := wire.Unpack(s[:]); !right || got != r {
						t.Fatalf("%+v: %x: %+v, %v", r, s, got, right)
					}
				}
			}
		}
	}
}

// TestWrongCheck: any byte that is another one, the check too.
func TestWrongCheck(t *testing.T) {
	for _, r := range []api.Raw{{}, {X: -1, Y: -1, Z: -1, T: -1}, {X: 1, Y: -1, Z: 300, T: 25}} {
		for place := range wire.SampleSize {
			for xor := 1; xor < 256; xor++ {
				s := wire.Pack(r)
				s[place] ^= byte(xor)
				if got, right := wire.Unpack(s[:]); right || got != (api.Raw{}) {
					t.Fatalf("Unpack(%x): %+v, %v", s, got, right)
				}
			}
		}
	}
	blank := bytes.Repeat([]byte{0xff}, wire.SampleSize)
	if _, right := wire.Unpack(blank); right {
		t.Error("where there is no sample, one is told")
	}
}

func TestWrongLength(t *testing.T) {
	s := wire.Pack(api.Raw{})
	all := append(s[:], s[:]...)
	for n := range len(all) + 1 {
		if _, right := wire.Unpack(all[:n]); right != (n == wire.SampleSize) {
			t.Errorf("%d bytes: %v", n, right)
		}
	}
	if _, right := wire.Unpack([]byte{0x5a}); right {
		t.Error("a check alone")
	}
}

// TestBounds: each thing at its bounds and just outside them.
func TestBounds(t *testing.T) {
	tests := []struct {
		what        string
		is          func(int) bool
		least, most int
	}{
		{"addr", wire.IsAddr, 0, 127},
		{"id", wire.IsID, 0, 255},
		{"x", func(v int) bool { return wire.IsRaw(api.Raw{X: v}) }, -1 << 15, 1<<15 - 1},
		{"y", func(v int) bool { return wire.IsRaw(api.Raw{Y: v}) }, -1 << 15, 1<<15 - 1},
		{"z", func(v int) bool { return wire.IsRaw(api.Raw{Z: v}) }, -1 << 15, 1<<15 - 1},
		{"temperature", wire.IsTemperature, -128, 127},
		{"t", func(v int) bool { return wire.IsRaw(api.Raw{T: v}) }, -128, 127},
	}
	for _, test := range tests {
		for _, v := range []int{test.least, test.least + 1, 0, 1, test.most - 1, test.most} {
			if !test.is(v) {
				t.Errorf("%s: %d is none", test.what, v)
			}
		}
		for _, v := range []int{test.least - 1, test.most + 1, 1 << 32, math.MinInt, math.MaxInt} {
			if test.is(v) {
				t.Errorf("%s: %d is one", test.what, v)
			}
		}
	}
}
