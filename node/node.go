// Package node has the nodes of a tree, of two kinds: the lowest hold pairs, the others links to the nodes below them. A node fills a block at most, and is never changed once it is made.
package node

import (
	"shadow/api"
	"shadow/code"
	"shadow/volume"
)

// Least is how many entries a node has at least, unless it is the topmost. It keeps trees low and small: of n keys there are never more than n/2 + 1 nodes.
const Least = 3

// Levels is how many a tree has at most: on one more there would be more lowest nodes than the greatest device has blocks, as the topmost has two links at least.
const Levels = 6

// Node is of level 0, with pairs, or of a higher one, with links.
type Node struct {
	Level int
	Pairs []Pair
	Links []Link
}

// Pair is a key with its value.
type Pair struct {
	api.Pair
}

// Place is where a node lies, and the sum of what lies there: by that it is seen, if a bit of it was turned. Another node may have the same sum, so a place holds only as long as nothing is laid over the node. One that lies nowhere has no place.
type Place struct {
	Block int
	Sum   uint64
}

// Link leads to a node that has a place, or to one that is new. No key in it is less than the link's own, which is that of the node's first link, too.
type Link struct {
	Key string
	Place
	New *Node
}

// Leaves makes nodes of pairs, one or two, and the links to them, the first of which has the key.
func Leaves(key string, pairs []Pair) []Link {
	return cut(key, pairs, func(half []Pair) *Node { return &Node{Pairs: half} })
}

// Branches makes nodes of links likewise, at a level.
func Branches(key string, level int, links []Link) []Link {
	return cut(key, links, func(half []Link) *Node { return &Node{Level: level, Links: half} })
}

// Count tells how many entries it has.
func (n *Node) Count() int {
	return len(n.Pairs) + len(n.Links)
}

// Lay writes the node in a block, and tells its place.
func (n *Node) Lay(v *volume.Volume, block int) Place {
	b := n.Block()
	v.Save(block, b)
	return Place{block, code.Sum(b[:])}
}

// Read reads the node that was laid at a place; false, if something else lies there.
func Read(v *volume.Volume, at Place) (*Node, bool) {
	b := v.Load(at.Block)
	if code.Sum(b[:]) != at.Sum {
		return nil, false
	}
	return parse(b)
}
