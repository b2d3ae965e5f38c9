package shadow

import (
	"shadow/api"
	"shadow/tree"
	"shadow/volume"
)

// Cursor stands on a pair, or nowhere.
type Cursor struct {
	of    *Txn
	key   string // of the pair; it is empty, if the cursor stands nowhere
	since uint64 // the transaction's changes when it came to stand
}

// move goes to the pair that find finds in what the transaction sees. Where it stands is asked for, if it goes from there.
func (c *Cursor) move(call string, fromHere bool, find func(sees tree.Tree) (api.Pair, bool)) (api.Pair, bool, error) {
	var p api.Pair
	var there bool
	err := c.of.going(call, func() {
		if fromHere && (c.key == "" || c.since != c.of.changes) {
			volume.Throw(api.ErrPlace)
		}
		p, there = find(c.of.sees)
		c.key, c.since = p.Key, c.of.changes
	})
	return p, there, err
}

// First goes to the first pair (P8).
func (c *Cursor) First() (api.Pair, bool, error) {
	return c.move("First", false, func(sees tree.Tree) (api.Pair, bool) {
		return sees.First(func(key string) bool { return true })
	})
}

// Last goes to the last one (P8).
func (c *Cursor) Last() (api.Pair, bool, error) {
	return c.move("Last", false, func(sees tree.Tree) (api.Pair, bool) {
		return sees.Last(func(key string) bool { return true })
	})
}

// Seek goes to the first pair whose key is not less (P8).
func (c *Cursor) Seek(key string) (api.Pair, bool, error) {
	return c.move("Seek", false, func(sees tree.Tree) (api.Pair, bool) {
		return sees.First(func(k string) bool { return k >= key })
	})
}

// Next goes to the next pair (P8).
func (c *Cursor) Next() (api.Pair, bool, error) {
	return c.move("Next", true, func(sees tree.Tree) (api.Pair, bool) {
		return sees.First(func(k string) bool { return k > c.key })
	})
}

// Prev goes to the pair ahead (P8).
func (c *Cursor) Prev() (api.Pair, bool, error) {
	return c.move("Prev", true, func(sees tree.Tree) (api.Pair, bool) {
		return sees.Last(func(k string) bool { return k < c.key })
	})
}
