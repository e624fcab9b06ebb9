package sched

// signal has room for one wake event: a task is awake while its event lies there.
type signal chan struct{}

// fill lays an event into it, unless one lies there: a task that is woken twice is run once.
func (s signal) fill() {
	select {
	case s <- struct{}{}:
	default:
	}
}

// empty takes the event out, and tells whether there was one.
func (s signal) empty() bool {
	select {
	case <-s:
		return true
	default:
		return false
	}
}
