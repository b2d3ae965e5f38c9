package shadow

import (
	"strings"

	"shadow/api"
	"shadow/tree"
	"shadow/volume"
)

// Txn is a transaction.
type Txn struct {
	*store
	number  uint64
	writes  bool
	over    bool
	sees    tree.Tree
	changes uint64 // Puts and Deletes so far that were answered with nil
}

// going does the work of a call, if the transaction is not over.
func (t *Txn) going(call string, work func()) error {
	return t.alone(call, func() {
		if t.over {
			volume.Throw(api.ErrDone)
		}
		work()
	})
}

// change does the work of a call that changes what a key has.
func (t *Txn) change(call string, key string, work func()) error {
	return t.going(call, func() {
		if !t.writes {
			volume.Throw(api.ErrRead)
		}
		checkKey(key)
		work()
		t.changes++
	})
}

// checkKey throws ErrKey, if it is none.
func checkKey(key string) {
	if len(key) < 1 || len(key) > api.MaxKey {
		volume.Throw(api.ErrKey)
	}
}

// Put gives a key a value (P6). It keeps copies, since what it is handed may be a piece of something great. The transaction never gets more new nodes by it than could be laid beside what is committed.
func (t *Txn) Put(key string, value string) error {
	return t.change("Put", key, func() {
		if len(value) > api.MaxValue {
			volume.Throw(api.ErrValue)
		}
		then := t.sees.Put(api.Pair{Key: strings.Clone(key), Value: strings.Clone(value)})
		if then.New() > t.room() {
			volume.Throw(api.ErrSpace)
		}
		t.sees = then
	})
}

// Delete takes a key away (P6).
func (t *Txn) Delete(key string) error {
	return t.change("Delete", key, func() { t.sees = t.sees.Delete(key) })
}

// Get tells a key's value, and whether it has one (P6).
func (t *Txn) Get(key string) (string, bool, error) {
	var value string
	var there bool
	err := t.going("Get", func() {
		checkKey(key)
		value, there = t.sees.Get(key)
	})
	return value, there, err
}

// All goes through the pairs from one key on up to another (P7), of what the transaction sees when it begins. Each step is a call of its own, so whoever gets a pair may make other calls ahead of the next one.
func (t *Txn) All(lo string, hi string) func(yield func(p api.Pair, err error) bool) {
	return func(yield func(p api.Pair, err error) bool) {
		var sees tree.Tree
		err := t.going("All", func() { sees = t.sees })
		next := func(key string) bool { return key >= lo }
		for err == nil {
			var p api.Pair
			var there bool
			err = t.going("All", func() { p, there = sees.First(next) })
			if err == nil && (!there || p.Key >= hi || !yield(p, nil)) {
				return
			}
			next = func(key string) bool { return key > p.Key }
		}
		yield(api.Pair{}, err)
	}
}

// Cursor makes a cursor (P8).
func (t *Txn) Cursor() (*Cursor, error) {
	var c *Cursor
	err := t.going("Cursor", func() { c = &Cursor{of: t} })
	return c, err
}

// Commit makes sure of what the transaction sees (P9).
func (t *Txn) Commit() error {
	return t.going("Commit", func() {
		sees := t.sees
		t.end()
		if t.writes {
			t.commit(sees)
		}
	})
}

// Abort forgets what it changed (P9).
func (t *Txn) Abort() error {
	return t.going("Abort", t.end)
}

// end: it is over, and what it saw is not kept any more.
func (t *Txn) end() {
	t.over = true
	t.sees = tree.Tree{}
	t.leave(t.number)
}
