package limb

// Settle tells what a number rounds to: narrow tells, with so many limbs, an interval in which it lies, till both ends round to one. It ends for every number that is not just between two of those it may round to.
func Settle[W comparable, S interface{ Ends() (W, W) }](narrow func(limbs int) S) W {
	for limbs := 1; ; limbs *= 2 {
		low, high := narrow(limbs).Ends()
		if low == high {
			return low
		}
	}
}
