package tree

import (
	"shadow/api"
	"shadow/head"
	"shadow/node"
	"shadow/volume"
)

// check is a walk through all that lies of a tree, from its first key to its last. As levels fall and keys rise, it ends, and comes to no node twice.
type check struct {
	on     *volume.Volume
	blocks int    // how many nodes it came to
	last   string // the greatest key so far
}

// Check throws ErrCorrupt, if what lies at the tree's places is not a tree such as would be laid; else it tells how many blocks it lies in.
func (t Tree) Check() int {
	c := &check{on: t.on}
	if !t.empty() {
		c.walk(t.root, c.root(t.root.Place))
	}
	return c.blocks
}

// need throws, unless it is so.
func need(so bool) {
	if !so {
		volume.Throw(api.ErrCorrupt)
	}
}

// read reads a node, which lies in a block that there is, and in none of the heads'.
func (c *check) read(at node.Place) *node.Node {
	need(at.Block >= head.Slots && at.Block < c.on.Blocks())
	n, ok := node.Read(c.on, at)
	need(ok)
	c.blocks++
	return n
}

// root reads the topmost node: it may have few entries, but a pair, or two links. How high it may be is asked ahead of all that is below: so it ends soon, even if the device makes up what it gives.
func (c *check) root(at node.Place) *node.Node {
	n := c.read(at)
	need(n.Level < node.Levels && n.Count() > min(n.Level, 1))
	return n
}

// below reads a node below another.
func (c *check) below(n *node.Node, at node.Place) *node.Node {
	b := c.read(at)
	need(b.Level == n.Level-1 && b.Count() >= node.Least)
	return b
}

// walk goes through a node, to which a link leads, and all below it.
func (c *check) walk(l node.Link, n *node.Node) {
	for _, p := range n.Pairs {
		need(p.Key > c.last && p.Key >= l.Key)
		c.last = p.Key
	}
	for i, next := range n.Links {
		if i == 0 {
			need(next.Key == l.Key)
		} else {
			need(next.Key > c.last)
		}
		c.walk(next, c.below(n, next.Place))
	}
}
