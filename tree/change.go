package tree

import (
	"slices"

	"shadow/api"
	"shadow/node"
)

// Put is the tree in which the key has the value.
func (t Tree) Put(p api.Pair) Tree {
	if t.empty() {
		return t.under(node.Leaves("", []node.Pair{{Pair: p}}))
	}
	return t.under(t.with(t.root, t.top(), node.Pair{Pair: p}))
}

// Delete is the tree in which the key has no value.
func (t Tree) Delete(key string) Tree {
	if _, there := t.Get(key); !there {
		return t
	}
	return t.under(t.without(t.root, t.top(), key))
}

// under is the tree with these topmost links, one or two. A node with no entry, or with one link, is no root.
func (t Tree) under(links []node.Link) Tree {
	root := links[0]
	if len(links) > 1 {
		root = node.Branches("", root.New.Level+1, links)[0]
	}
	switch n := root.New; {
	case n.Count() == 0:
		root = node.Link{}
	case len(n.Links) == 1:
		root = n.Links[0]
	}
	return Tree{t.on, root}
}

// with is what leads, in place of a link to a node, to what is in that and a pair.
func (t Tree) with(l node.Link, n *node.Node, p node.Pair) []node.Link {
	if n.Level == 0 {
		i, there := spot(n, p.Key)
		upTo := i
		if there {
			upTo++
		}
		return node.Leaves(l.Key, replaced(n.Pairs, i, upTo, p))
	}
	i := way(n, p.Key)
	next := n.Links[i]
	return node.Branches(l.Key, n.Level, replaced(n.Links, i, i+1, t.with(next, t.node(next, n.Level), p)...))
}

// without is what leads, in place of a link to a node, to what is in that but a key, which is there. It may be a single node with too few entries: who holds the link mends that, as he knows its neighbours. It may be two nodes, too, since a link may have got a longer key.
func (t Tree) without(l node.Link, n *node.Node, key string) []node.Link {
	if n.Level == 0 {
		i, _ := spot(n, key)
		return node.Leaves(l.Key, replaced(n.Pairs, i, i+1))
	}
	i := way(n, key)
	next := n.Links[i]
	links := replaced(n.Links, i, i+1, t.without(next, t.node(next, n.Level), key)...)
	return node.Branches(l.Key, n.Level, t.mended(links, n.Level, i))
}

// mended is the list of a node's links, of which the i-th leads to a node that may have too few entries: then it is made one with its neighbour, or shares the neighbour's entries.
func (t Tree) mended(links []node.Link, level int, i int) []node.Link {
	if links[i].New.Count() >= node.Least {
		return links
	}
	i = min(i, len(links)-2)
	l, a, b := links[i], t.node(links[i], level), t.node(links[i+1], level)
	if a.Level == 0 {
		return replaced(links, i, i+2, node.Leaves(l.Key, slices.Concat(a.Pairs, b.Pairs))...)
	}
	return replaced(links, i, i+2, node.Branches(l.Key, a.Level, slices.Concat(a.Links, b.Links))...)
}

// replaced is a list, a new one, with others in place of the entries from one place on up to another.
func replaced[E any](list []E, from int, upTo int, by ...E) []E {
	return slices.Concat(list[:from], by, list[upTo:])
}
