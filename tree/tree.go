// Package tree has what a transaction sees: keys in rising order with their values, in a tree of nodes. No tree is ever changed: a change makes another, which has new nodes where they differ and shares the others.
package tree

import (
	"slices"
	"sort"

	"shadow/api"
	"shadow/node"
	"shadow/volume"
)

// Tree is on a volume. An empty one has a root that leads nowhere.
type Tree struct {
	on   *volume.Volume
	root node.Link
}

// At is the tree whose root lies at a place.
func At(v *volume.Volume, root node.Place) Tree {
	return Tree{v, node.Link{Place: root}}
}

// New tells how many of its nodes are new: so many blocks it takes to lay it down.
func (t Tree) New() int {
	return count(t.root)
}

func count(l node.Link) int {
	if l.New == nil {
		return 0
	}
	n := 1
	for _, below := range l.New.Links {
		n += count(below)
	}
	return n
}

// empty: has it no node at all?
func (t Tree) empty() bool {
	return t.root == node.Link{}
}

// top is the topmost node of a tree that is not empty.
func (t Tree) top() *node.Node {
	return t.node(t.root, node.Levels)
}

// node is what a link leads to, below a level. What lies on the device was read when the store was opened, or laid since: if it is another now, the device broke down. That is asked of the level, too, and not of the sum alone, which another may have: as long as levels fall, all that goes down a tree ends.
func (t Tree) node(l node.Link, above int) *node.Node {
	if l.New != nil {
		return l.New
	}
	n, ok := node.Read(t.on, l.Place)
	if !ok || n.Level >= above {
		t.on.Spoilt(l.Block)
	}
	return n
}

// Get tells a key's value, and whether it has one.
func (t Tree) Get(key string) (string, bool) {
	if t.empty() {
		return "", false
	}
	n := t.top()
	for n.Level > 0 {
		n = t.node(n.Links[way(n, key)], n.Level)
	}
	i, there := spot(n, key)
	if !there {
		return "", false
	}
	return n.Pairs[i].Value, true
}

// way is which of a node's links leads to a key.
func way(n *node.Node, key string) int {
	return lastOf(n.Links, func(l node.Link) bool { return l.Key <= key })
}

// spot is where in a node of pairs a key stands, or would stand, and whether it is there.
func spot(n *node.Node, key string) (int, bool) {
	i := firstOf(n.Pairs, func(p node.Pair) bool { return p.Key >= key })
	return i, i < len(n.Pairs) && n.Pairs[i].Key == key
}

// firstOf is the place of the first entry that is right, where all behind a right one are; the length, if none is.
func firstOf[E any](list []E, right func(e E) bool) int {
	return sort.Search(len(list), func(i int) bool { return right(list[i]) })
}

// lastOf is the place of the last entry that is right, where all ahead of a right one are; nought, if none is.
func lastOf[E any](list []E, right func(e E) bool) int {
	return max(0, firstOf(list, func(e E) bool { return !right(e) })-1)
}

// First is the first pair whose key is right, where all behind a right one are; false, if there is none.
func (t Tree) First(right func(key string) bool) (api.Pair, bool) {
	if t.empty() {
		return api.Pair{}, false
	}
	return t.first(t.top(), right)
}

// first begins at the last link whose key is not right: behind it all are. So it looks at two links at most.
func (t Tree) first(n *node.Node, right func(key string) bool) (api.Pair, bool) {
	if n.Level == 0 {
		if i := firstOf(n.Pairs, func(p node.Pair) bool { return right(p.Key) }); i < len(n.Pairs) {
			return n.Pairs[i].Pair, true
		}
		return api.Pair{}, false
	}
	for _, below := range n.Links[lastOf(n.Links, func(l node.Link) bool { return !right(l.Key) }):] {
		if p, there := t.first(t.node(below, n.Level), right); there {
			return p, true
		}
	}
	return api.Pair{}, false
}

// Last is the last pair whose key is right, where all ahead of a right one are; false, if there is none.
func (t Tree) Last(right func(key string) bool) (api.Pair, bool) {
	if t.empty() {
		return api.Pair{}, false
	}
	return t.last(t.top(), right)
}

// last begins at the last link whose key is right: ahead of it all are. So it looks at two links at most.
func (t Tree) last(n *node.Node, right func(key string) bool) (api.Pair, bool) {
	if n.Level == 0 {
		i := lastOf(n.Pairs, func(p node.Pair) bool { return right(p.Key) })
		if right(n.Pairs[i].Key) {
			return n.Pairs[i].Pair, true
		}
		return api.Pair{}, false
	}
	upTo := lastOf(n.Links, func(l node.Link) bool { return right(l.Key) })
	for _, below := range slices.Backward(n.Links[:upTo+1]) {
		if p, there := t.last(t.node(below, n.Level), right); there {
			return p, true
		}
	}
	return api.Pair{}, false
}
