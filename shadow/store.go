package shadow

import (
	"errors"
	"sync"

	"shadow/api"
	"shadow/head"
	"shadow/volume"
)

// store is what a DB and its transactions have in common. What it keeps is read and changed by one call at a time, in alone.
type store struct {
	lock      sync.Mutex
	on        *volume.Volume
	committed head.Head
	room      int  // blocks that neither the heads take nor what is committed
	poisoned  bool // the device told an error
	writing   bool // a transaction that writes goes on
	reading   int  // how many that read go on
}

// alone does the work of a call while no other works, and tells what was thrown in it.
func (s *store) alone(call string, work func()) error {
	s.lock.Lock()
	defer s.lock.Unlock()
	err := volume.Catch(call, func() {
		if s.poisoned {
			volume.Throw(api.ErrPoisoned)
		}
		work()
	})
	if errors.Is(err, api.ErrIO) {
		s.poisoned = true
	}
	return err
}

// enter counts a transaction that begins. It throws ErrBusy, if there is one too many.
func (s *store) enter(write bool) {
	switch {
	case write && s.writing, !write && s.reading == api.MaxReads:
		volume.Throw(api.ErrBusy)
	case write:
		s.writing = true
	default:
		s.reading++
	}
}

// leave counts one that is over.
func (s *store) leave(write bool) {
	if write {
		s.writing = false
	} else {
		s.reading--
	}
}
