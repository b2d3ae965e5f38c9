package node

// entry is what a node of either kind is made of.
type entry interface {
	size() int
	lowest() string
	append(b []byte) []byte
}

// measure is how many bytes entries take in a block.
func measure[E entry](list []E) int {
	n := 0
	for _, e := range list {
		n += e.size()
	}
	return n
}

// halve is the list itself, if a block has room for it, else two lists of about the same size: each is greater than any two entries are, so none has fewer than Least.
func halve[E entry](list []E) [][]E {
	all := measure(list)
	if all <= room {
		return [][]E{list}
	}
	at := 0
	for n := 0; 2*n < all; at++ {
		n += list[at].size()
	}
	return [][]E{list[:at:at], list[at:]}
}

// cut makes a node of each half, and the links to them.
func cut[E entry](key string, list []E, made func(half []E) *Node) []Link {
	var links []Link
	for i, half := range halve(list) {
		if i > 0 {
			key = half[0].lowest()
		}
		links = append(links, Link{Key: key, New: made(half)})
	}
	return links
}

// write writes entries behind other bytes.
func write[E entry](b []byte, list []E) []byte {
	for _, e := range list {
		b = e.append(b)
	}
	return b
}
