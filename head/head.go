// Package head has the two heads of a store: the newer one says what is committed. A head fills one sector, so that a failure of power leaves it whole, or leaves what was in its place.
package head

import (
	"bytes"

	"shadow/api"
	"shadow/volume"
)

// Slots is how many heads there are; they lie in the first blocks.
const Slots = 2

// The parts of a head's sector: the mark, the number, noughts, and the sum of all ahead of it.
const (
	mark     = "shadow01"
	numberAt = 8
	sumAt    = api.Sector - 8
)

// Head is of a store that is empty. Numbers rise by one from head to head, and wrap round.
type Head struct {
	Number uint64
}

// Newest is the head that holds; false, if there is none.
func Newest(v *volume.Volume) (Head, bool) {
	a, isA := find(v, 0)
	b, isB := find(v, 1)
	if isB && (!isA || b.newer(a)) {
		return b, true
	}
	return a, isA
}

// Next is the head to be laid behind this one: its place is that of the head ahead of this one, which nobody needs any more.
func (h Head) Next() Head {
	return Head{Number: h.Number + 1}
}

// Lay writes a head in its place, and makes sure of it.
func Lay(v *volume.Volume, h Head) {
	var b volume.Block
	s := h.sector()
	copy(b[:], s[:])
	v.Save(h.place(), b)
	v.Settle()
}

// place is the block where the head lies: it follows from the number, so that no head is ever written over the newest.
func (h Head) place() int {
	return int(h.Number % Slots)
}

// newer holds the distance against nought, not the numbers against each other, since they wrap round.
func (h Head) newer(than Head) bool {
	return int64(h.Number-than.Number) > 0
}

// find is the head that lies in a block; false, if none does. Only its own sector counts: the others may be of another write.
func find(v *volume.Volume, i int) (Head, bool) {
	b := v.Load(i)
	h := Head{Number: number(b[numberAt:])}
	s := h.sector()
	if h.place() != i || !bytes.Equal(s[:], b[:api.Sector]) {
		return Head{}, false
	}
	return h, true
}

// sector is the head as it lies on a device.
func (h Head) sector() [api.Sector]byte {
	var s [api.Sector]byte
	copy(s[:], mark)
	setNumber(s[numberAt:], h.Number)
	setNumber(s[sumAt:], sum(s[:sumAt]))
	return s
}

// number reads 8 bytes, the lowest first.
func number(b []byte) uint64 {
	var n uint64
	for i := range 8 {
		n |= uint64(b[i]) << (8 * i)
	}
	return n
}

// setNumber writes 8 bytes, the lowest first.
func setNumber(b []byte, n uint64) {
	for i := range 8 {
		b[i] = byte(n >> (8 * i))
	}
}

// sum is FNV-1a: each of its steps can be undone, so no change of a single byte leaves it as it was.
func sum(b []byte) uint64 {
	s := uint64(14695981039346656037)
	for _, x := range b {
		s = (s ^ uint64(x)) * 1099511628211
	}
	return s
}
