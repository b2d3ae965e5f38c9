// Package shadow: keys and values on a device, changed by transactions: see DOC.md.
package shadow

import (
	"shadow/api"
	"shadow/head"
	"shadow/node"
	"shadow/tree"
	"shadow/volume"
)

// DB is open on a device.
type DB struct {
	*store
}

// Format lays an empty store on a device (P3). Each head it lays is newer than all others and takes the place of the oldest: wherever it is cut off, the newest one is of what was there, or empty.
func Format(d api.Device) error {
	return volume.Catch("Format", func() {
		v := volume.On(d)
		h, _ := head.Newest(v)
		for range head.Slots {
			h = h.Next(node.Place{})
			head.Lay(v, h)
		}
	})
}

// Open opens the store that is on a device (P4). What it found may be unsure still, where a call failed and the power did not, so it makes sure of it; behind the reads, since ErrCorrupt goes ahead of ErrIO.
func Open(d api.Device) (*DB, error) {
	var x *DB
	err := volume.Catch("Open", func() {
		v := volume.On(d)
		h, ok := head.Newest(v)
		if !ok {
			volume.Throw(api.ErrCorrupt)
		}
		blocks := tree.At(v, h.Root).Check()
		v.Settle()
		x = &DB{&store{on: v, committed: h, blocks: blocks, readers: map[uint64]tree.Tree{}}}
	})
	return x, err
}

// Begin begins a transaction (P5).
func (x *DB) Begin(write bool) (*Txn, error) {
	var t *Txn
	err := x.alone("Begin", func() {
		t = &Txn{store: x.store, writes: write, sees: x.now(), number: x.enter(write)}
	})
	return t, err
}
