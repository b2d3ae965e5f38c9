package shadow

import (
	"errors"
	"maps"
	"slices"
	"sync"

	"shadow/api"
	"shadow/head"
	"shadow/node"
	"shadow/tree"
	"shadow/volume"
)

// store is what a DB and its transactions have in common. What it keeps is read and changed by one call at a time, in alone.
type store struct {
	lock      sync.Mutex
	on        *volume.Volume
	committed head.Head
	blocks    int                  // in which what is committed lies
	poisoned  bool                 // the device told an error
	begun     uint64               // transactions so far: each has a number
	writer    uint64               // of the one that writes and goes on; 0: there is none
	readers   map[uint64]tree.Tree // what those see that read and go on
}

// alone does the work of a call while no other works, and tells what was thrown in it.
func (s *store) alone(call string, work func()) error {
	s.lock.Lock()
	defer s.lock.Unlock()
	err := volume.Catch(call, func() {
		if s.poisoned {
			volume.Throw(api.ErrPoisoned)
		}
		work()
	})
	if errors.Is(err, api.ErrIO) {
		s.poisoned = true
	}
	return err
}

// now is what is committed.
func (s *store) now() tree.Tree {
	return tree.At(s.on, s.committed.Root)
}

// room is how many blocks neither the heads take nor what is committed.
func (s *store) room() int {
	return s.on.Blocks() - head.Slots - s.blocks
}

// enter gives a transaction that begins its number. It throws ErrBusy, if there is one too many.
func (s *store) enter(write bool) uint64 {
	if write && s.writer != 0 || !write && len(s.readers) == api.MaxReads {
		volume.Throw(api.ErrBusy)
	}
	s.begun++
	if write {
		s.writer = s.begun
	} else {
		s.readers[s.begun] = s.now()
	}
	return s.begun
}

// leave: the transaction with the number is over.
func (s *store) leave(number uint64) {
	if number == s.writer {
		s.writer = 0
	}
	delete(s.readers, number)
}

// commit lays a tree down beside what is committed and what is read still, and behind that the head that leads to it. Ahead of that it makes both heads lead to what is committed: so nothing is ever laid over a node to which a head leads, and where one head is undone, the other leads to a whole tree. The sums in places could not see to that, since two nodes may have the same.
func (s *store) commit(then tree.Tree) {
	now := s.now()
	if then == now {
		return
	}
	free, blocks := then.Room(append(s.read(), now)...)
	s.lead(s.committed.Root)
	s.lead(then.Lay(free))
	s.blocks = blocks
}

// lead lays a head that leads to a root, over the older one: that root is committed then.
func (s *store) lead(root node.Place) {
	h := s.committed.Next(root)
	head.Lay(s.on, h)
	s.committed = h
}

// read are the trees that are read still, in the order in which the transactions began: that of the map would change the order in which the device is asked.
func (s *store) read() []tree.Tree {
	var list []tree.Tree
	for _, number := range slices.Sorted(maps.Keys(s.readers)) {
		list = append(list, s.readers[number])
	}
	return list
}
