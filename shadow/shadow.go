// Package shadow: keys and values on a device, changed by transactions: see DOC.md.
package shadow

import (
	"shadow/api"
	"shadow/head"
	"shadow/volume"
)

// DB is open on a device.
type DB struct {
	on        *volume.Volume
	committed head.Head
}

// Format lays an empty store on a device (P3). Each head it lays is newer than all others and takes the place of the oldest: wherever it is cut off, the newest one is of what was there, or empty.
func Format(d api.Device) error {
	return volume.Catch("Format", func() {
		v := volume.On(d)
		h, _ := head.Newest(v)
		for range head.Slots {
			h = h.Next()
			head.Lay(v, h)
		}
	})
}

// Open opens the store that is on a device (P4). What it found may be unsure still, where a call failed and the power did not, so it makes sure of it; behind the reads, since ErrCorrupt goes ahead of ErrIO.
func Open(d api.Device) (*DB, error) {
	var x *DB
	err := volume.Catch("Open", func() {
		v := volume.On(d)
		h, ok := head.Newest(v)
		if !ok {
			volume.Throw(api.ErrCorrupt)
		}
		v.Settle()
		x = &DB{on: v, committed: h}
	})
	return x, err
}

// Begin begins a transaction (P5).
func (x *DB) Begin(write bool) (*Txn, error) { return nil, nil }

// Txn is a transaction.
type Txn struct{}

// Put gives a key a value (P6).
func (t *Txn) Put(key string, value string) error { return nil }

// Delete takes a key away (P6).
func (t *Txn) Delete(key string) error { return nil }

// Get tells a key's value, and whether it has one (P6).
func (t *Txn) Get(key string) (string, bool, error) { return "", false, nil }

// All goes through the pairs from one key on up to another (P7).
func (t *Txn) All(lo string, hi string) func(yield func(p api.Pair, err error) bool) {
	return func(yield func(p api.Pair, err error) bool) {}
}

// Cursor makes a cursor (P8).
func (t *Txn) Cursor() (*Cursor, error) { return nil, nil }

// Commit makes sure of the transaction's changes (P9).
func (t *Txn) Commit() error { return nil }

// Abort forgets them (P9).
func (t *Txn) Abort() error { return nil }

// Cursor stands on a pair, or nowhere.
type Cursor struct{}

// First goes to the first pair (P8).
func (c *Cursor) First() (api.Pair, bool, error) { return api.Pair{}, false, nil }

// Last goes to the last one (P8).
func (c *Cursor) Last() (api.Pair, bool, error) { return api.Pair{}, false, nil }

// Seek goes to the first pair whose key is not less (P8).
func (c *Cursor) Seek(key string) (api.Pair, bool, error) { return api.Pair{}, false, nil }

// Next goes to the next pair (P8).
func (c *Cursor) Next() (api.Pair, bool, error) { return api.Pair{}, false, nil }

// Prev goes to the pair ahead (P8).
func (c *Cursor) Prev() (api.Pair, bool, error) { return api.Pair{}, false, nil }
