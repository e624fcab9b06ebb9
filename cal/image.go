package cal

import (
	"gimbal/api"
	"gimbal/wide"
)

// unit is what one of a raw sample's numbers is multiplied by.
const unit = 1024

// axes is how many numbers a vector has, and a row of the matrix.
const axes = 3

// cleared is the sample without what its bias and its heat add, exactly. It need be no vector: a word taken 255 times is no word. But it is below 2^54 without its sign, so nothing wraps.
func cleared(c api.Cal, r api.Raw) [axes]int64 {
	warmth := int64(r.T - c.Ref)
	return [axes]int64{
		unit*int64(r.X) - c.Bias.X - c.Heat.X*warmth,
		unit*int64(r.Y) - c.Bias.Y - c.Heat.Y*warmth,
		unit*int64(r.Z) - c.Bias.Z - c.Heat.Z*warmth,
	}
}

// image is each row of m times u, in Q30; all of it fails, if one result is no word. vec.Apply would refuse a u that is no vector, so the rows are summed wide here: below 2^101.
func image(m [axes * axes]int64, u [axes]int64) (api.Vec, api.Errno) {
	var told [axes]int64
	for i := range told {
		row := m[axes*i:][:axes]
		number, e := wide.Sum(u[:], row, wide.Product).Nearest(wide.Point).Word()
		if e != api.OK {
			return api.Vec{}, e
		}
		told[i] = number
	}
	return api.Vec{X: told[0], Y: told[1], Z: told[2]}, api.OK
}
