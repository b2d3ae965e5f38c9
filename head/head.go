// Package head has the two heads of a store: the newer one says what is committed. A head fills one sector, so that a failure of power leaves it whole, or leaves what was in its place.
package head

import (
	"bytes"

	"shadow/api"
	"shadow/code"
	"shadow/node"
	"shadow/volume"
)

// Slots is how many heads there are; they lie in the first blocks.
const Slots = 2

// The parts of a head's sector: the mark, the block of the root, the head's number, the sum of the root, and the sum of all ahead of it.
const (
	mark     = "shadow"
	blockAt  = len(mark)
	numberAt = blockAt + 2
	rootAt   = numberAt + 8
	sumAt    = rootAt + 8
)

// Head leads to the root of a tree; of one that is empty it has no place. Numbers rise by one from head to head, and wrap round.
type Head struct {
	Number uint64
	Root   node.Place
}

// Newest is the head that holds; false, if there is none.
func Newest(v *volume.Volume) (Head, bool) {
	a, isA := find(v, 0)
	b, isB := find(v, 1)
	if isB && (!isA || b.newer(a)) {
		return b, true
	}
	return a, isA
}

// Next is the head to be laid behind this one: its place is that of the head ahead of this one, which nobody needs any more.
func (h Head) Next(root node.Place) Head {
	return Head{h.Number + 1, root}
}

// Lay writes a head in its place, and makes sure of it.
func Lay(v *volume.Volume, h Head) {
	var b volume.Block
	copy(b[:], h.sector())
	v.Save(h.place(), b)
	v.Settle()
}

// place is the block where the head lies: it follows from the number, so that no head is ever written over the newest.
func (h Head) place() int {
	return int(h.Number % Slots)
}

// newer holds the distance against nought, not the numbers against each other, since they wrap round.
func (h Head) newer(than Head) bool {
	return int64(h.Number-than.Number) > 0
}

// find is the head that lies in a block; false, if none does. Only its own sector counts: the others may be of another write.
func find(v *volume.Volume, i int) (Head, bool) {
	b := v.Load(i)
	h := Head{
		Number: code.Number(b[numberAt:rootAt]),
		Root:   node.Place{Block: int(code.Number(b[blockAt:numberAt])), Sum: code.Number(b[rootAt:sumAt])},
	}
	if h.place() != i || !bytes.Equal(h.sector(), b[:api.Sector]) {
		return Head{}, false
	}
	return h, true
}

// sector is the head as it lies on a device.
func (h Head) sector() []byte {
	b := code.Append([]byte(mark), uint64(h.Root.Block), numberAt-blockAt)
	b = code.Append(b, h.Number, rootAt-numberAt)
	b = code.Append(b, h.Root.Sum, sumAt-rootAt)
	return code.Append(b, code.Sum(b), api.Sector-sumAt)
}
