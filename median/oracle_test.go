package median_test

import (
	"math/big"

	"gimbal/api"
)

// What Take must tell, reckoned as the document writes it: nothing is sorted here; the one at a place of a rising order is told by how many are below it, and how many are not above it.

func isWord(v int64) bool { return big.NewInt(v).CmpAbs(big.NewInt(1<<45)) < 0 }

func isVector(v api.Vec) bool { return isWord(v.X) && isWord(v.Y) && isWord(v.Z) }

func areVectors(l []api.Vec) bool {
	for _, v := range l {
		if !isVector(v) {
			return false
		}
	}
	return true
}

func atPlace(place int, list []int64) int64 {
	for _, v := range list {
		below, notAbove := 0, 0
		for _, other := range list {
			if other < v {
				below++
			}
			if other <= v {
				notAbove++
			}
		}
		if below <= place && place < notAbove {
			return v
		}
	}
	panic("no such place")
}

func wantTake(l []api.Vec, n int, v api.Vec) answer {
	if n != 1 && n != 3 && n != 5 && n != 7 || len(l) > n || !areVectors(l) || !isVector(v) {
		return bad(api.ErrForm)
	}
	window := joined(l, v)
	window = window[max(0, len(window)-n):]
	var m api.Vec
	for i, number := range numbers(&m) {
		var list []int64
		for _, a := range window {
			list = append(list, *numbers(&a)[i])
		}
		*number = atPlace((len(list)-1)/2, list)
	}
	return good(m, window...)
}
