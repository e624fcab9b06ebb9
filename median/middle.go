package median

import (
	"cmp"
	"slices"
)

// middle is, of the numbers that are asked of a list's things, the one in the middle of their rising order; of an even number of them the lower one of both. The list is copied, as it keeps its own order. It is not empty.
func middle[T any, N cmp.Ordered](list []T, number func(T) N) N {
	rising := slices.Clone(list)
	slices.SortFunc(rising, func(a, b T) int {
		return cmp.Compare(number(a), number(b))
	})
	return number(rising[(len(rising)-1)/2])
}
