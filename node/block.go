package node

import (
	"shadow/api"
	"shadow/code"
	"shadow/volume"
)

// The parts of a block: the level, the number of entries, and the entries; noughts behind them.
const (
	entriesAt = 2
	room      = api.Block - entriesAt
)

// The parts of a link: the block, the sum, the length of the key, and the key.
const (
	blockBytes = 2
	sumBytes   = 8
	linkBytes  = blockBytes + sumBytes + 1
)

// Block is the node as it lies on a device.
func (n *Node) Block() volume.Block {
	b := write(write([]byte{byte(n.Level), byte(n.Count())}, n.Pairs), n.Links)
	var out volume.Block
	copy(out[:], b)
	return out
}

// parse is the node that lies in a block; false, if it is not such as would be laid.
func parse(b volume.Block) (*Node, bool) {
	n := &Node{Level: int(b[0])}
	rest, ok := b[entriesAt:], true
	for range b[1] {
		if n.Level == 0 {
			n.Pairs, rest, ok = parsePair(n.Pairs, rest)
		} else {
			n.Links, rest, ok = parseLink(n.Links, rest)
		}
		if !ok {
			return nil, false
		}
	}
	return n, n.Block() == b
}

// parsePair takes a pair from the bytes.
func parsePair(list []Pair, b []byte) ([]Pair, []byte, bool) {
	if len(b) == 0 {
		return nil, nil, false
	}
	k, v := int(b[0]>>4), int(b[0]&15)
	if k < 1 || k > api.MaxKey || v > api.MaxValue || len(b) < 1+k+v {
		return nil, nil, false
	}
	b = b[1:]
	p := Pair{api.Pair{Key: string(b[:k]), Value: string(b[k : k+v])}}
	return append(list, p), b[k+v:], true
}

// parseLink takes a link from the bytes.
func parseLink(list []Link, b []byte) ([]Link, []byte, bool) {
	if len(b) < linkBytes {
		return nil, nil, false
	}
	k := int(b[linkBytes-1])
	if k > api.MaxKey || len(b) < linkBytes+k {
		return nil, nil, false
	}
	at := Place{Block: int(code.Number(b[:blockBytes])), Sum: code.Number(b[blockBytes : blockBytes+sumBytes])}
	l := Link{Key: string(b[linkBytes : linkBytes+k]), Place: at}
	return append(list, l), b[linkBytes+k:], true
}

// size: the lengths of key and value share a byte.
func (p Pair) size() int { return 1 + len(p.Key) + len(p.Value) }

func (p Pair) lowest() string { return p.Key }

func (p Pair) append(b []byte) []byte {
	b = append(b, byte(len(p.Key)<<4|len(p.Value)))
	b = append(b, p.Key...)
	return append(b, p.Value...)
}

func (l Link) size() int { return linkBytes + len(l.Key) }

func (l Link) lowest() string { return l.Key }

func (l Link) append(b []byte) []byte {
	b = code.Append(b, uint64(l.Block), blockBytes)
	b = code.Append(b, l.Sum, sumBytes)
	b = append(b, byte(len(l.Key)))
	return append(b, l.Key...)
}
