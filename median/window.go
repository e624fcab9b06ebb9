package median

import (
	"gimbal/api"
	"gimbal/ring"
	"gimbal/vec"
)

func isSize(n int) bool {
	return n == 1 || n == 3 || n == 5 || n == 7
}

// isWindow tells whether l may be a window of n: how long it is comes first, as a longer one need not be gone through.
func isWindow(l []api.Vec, n int) bool {
	if !isSize(n) || len(l) > n {
		return false
	}
	for _, a := range l {
		if vec.Check(a) != api.OK {
			return false
		}
	}
	return true
}

// slid is the last n of l and v: a ring of n drops the first one by itself, and l's own memory, which the caller may share, is only read.
func slid(l []api.Vec, n int, v api.Vec) ([]api.Vec, api.Errno) {
	r, e := ring.New[api.Vec](n)
	if e != api.OK {
		return nil, e
	}
	for _, a := range l {
		r.Push(a)
	}
	r.Push(v)
	window := make([]api.Vec, 0, r.Len())
	for _, a := range r.All() {
		window = append(window, a)
	}
	return window, api.OK
}
