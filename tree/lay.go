package tree

import (
	"shadow/api"
	"shadow/head"
	"shadow/node"
	"shadow/volume"
)

// Room finds blocks for the new nodes of a tree: those in which nothing lies of the tree itself, nor of those that are kept. It tells, too, in how many blocks the whole tree lies, once it is laid. It throws ErrSpace, if there are too few.
func (t Tree) Room(kept ...Tree) (free []int, size int) {
	used := blocks{}
	used.add(t)
	size = len(used) + t.New()
	used.add(kept...)
	free = used.others(t.on)
	if t.New() > len(free) {
		volume.Throw(api.ErrSpace)
	}
	return free, size
}

// Lay lays the new nodes of a tree down, in the first of these blocks, and makes sure of them. It tells where the root lies then.
func (t Tree) Lay(free []int) node.Place {
	root := t.lay(t.root, func() int {
		next := free[0]
		free = free[1:]
		return next
	})
	t.on.Settle()
	return root.Place
}

// lay is the link that leads to where a node lies, which is laid now, if it is new: behind those below it, since it has their places in it.
func (t Tree) lay(l node.Link, next func() int) node.Link {
	if l.New == nil {
		return l
	}
	n := node.Node{Level: l.New.Level, Pairs: l.New.Pairs}
	for _, below := range l.New.Links {
		n.Links = append(n.Links, t.lay(below, next))
	}
	return node.Link{Key: l.Key, Place: n.Lay(t.on, next())}
}

// blocks are those in which nodes lie.
type blocks map[int]struct{}

// add takes in the blocks in which trees lie.
func (b blocks) add(trees ...Tree) {
	for _, t := range trees {
		if !t.empty() && b.take(t.root) {
			b.below(t, t.top())
		}
	}
}

// take takes in the block to which a link leads, if it leads to one. It tells whether to go on below: trees share whole branches, so where a block is in, all below it are.
func (b blocks) take(l node.Link) bool {
	if l.New != nil {
		return true
	}
	before := len(b)
	b[l.Block] = struct{}{}
	return len(b) > before
}

// below takes in the blocks of all nodes below another. The lowest are not read: there is nothing below them.
func (b blocks) below(t Tree, n *node.Node) {
	for _, l := range n.Links {
		if b.take(l) && n.Level > 1 {
			b.below(t, t.node(l, n.Level))
		}
	}
}

// others are the blocks of a volume that are not among them, nor the heads', in rising order.
func (b blocks) others(v *volume.Volume) []int {
	var list []int
	for i := head.Slots; i < v.Blocks(); i++ {
		if _, in := b[i]; !in {
			list = append(list, i)
		}
	}
	return list
}
