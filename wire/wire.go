// Package wire: what a device and those that read it must know: addresses, registers, the bytes of a sample: see ../../shared/doc/08-bus.md.
package wire

import (
	"math"

	"gimbal/api"
)

const (
	maxAddr = 127
	maxID   = 255
)

// The registers of a device.
const (
	RegID = iota
	RegOn
	RegPeriod
	RegCount
	RegQueue
	RegReset
	LastReg = RegReset
)

const (
	ResetByte  = 0xb6
	SampleSize = 8 // bytes
	checkSeed  = 0x5a
)

func IsAddr(addr int) bool {
	return addr >= 0 && addr <= maxAddr
}

func IsID(id int) bool {
	return id >= 0 && id <= maxID
}

func IsRaw(r api.Raw) bool {
	return isWord(r.X) && isWord(r.Y) && isWord(r.Z) && IsTemperature(r.T)
}

func IsTemperature(t int) bool {
	return t >= math.MinInt8 && t <= math.MaxInt8
}

// isWord tells whether x has room in the two bytes of a sample.
func isWord(x int) bool {
	return x >= math.MinInt16 && x <= math.MaxInt16
}

// Pack is the bytes of a sample.
func Pack(r api.Raw) [SampleSize]byte {
	s := [SampleSize]byte{high(r.X), byte(r.X), high(r.Y), byte(r.Y), high(r.Z), byte(r.Z), byte(r.T)}
	s[SampleSize-1] = check(s[:SampleSize-1])
	return s
}

// Unpack is the sample of these bytes; false, if their check is not right, or there are too few or too many.
func Unpack(s []byte) (api.Raw, bool) {
	if len(s) != SampleSize || s[SampleSize-1] != check(s[:SampleSize-1]) {
		return api.Raw{}, false
	}
	return api.Raw{X: word(s[0], s[1]), Y: word(s[2], s[3]), Z: word(s[4], s[5]), T: int(int8(s[6]))}, true
}

// check is what stands behind the bytes of a sample.
func check(ahead []byte) byte {
	sum := byte(checkSeed)
	for _, x := range ahead {
		sum ^= x
	}
	return sum
}

// high is the higher byte of a number of 16 bits.
func high(x int) byte {
	return byte(x >> 8)
}

// word is the number of two bytes, in two's complement.
func word(upper, lower byte) int {
	return int(int16(uint16(upper)<<8 | uint16(lower)))
}
