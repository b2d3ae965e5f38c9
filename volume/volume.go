// Package volume has a device whose errors are thrown, so that what works on blocks need not hand them on, and what catches them.
package volume

import (
	"strconv"

	"shadow/api"
)

// Block is what a block of a device holds.
type Block [api.Block]byte

// Volume is a device with a fair number of blocks.
type Volume struct {
	api.Device
	blocks int
}

// On is the volume of a device. It throws ErrSize, if that has too few blocks, or too many.
func On(d api.Device) *Volume {
	n := count(d)
	if n < api.MinBlocks || n > api.MaxBlocks {
		Throw(api.ErrSize)
	}
	return &Volume{d, n}
}

// count asks a device how many blocks it has. One that is not there, or breaks down at the question, has none.
func count(d api.Device) (n int) {
	defer func() {
		if recover() != nil {
			n = 0
		}
	}()
	return d.Blocks()
}

// Blocks tells how many there are, as the device told when it was asked first: it is not to grow or to shrink under a store.
func (v *Volume) Blocks() int {
	return v.blocks
}

// Load reads a block. It is copied, since the device may go on using what it gave; what a device gives too little of ends in noughts.
func (v *Volume) Load(i int) Block {
	given, err := v.Read(i)
	if err != nil {
		fail("read of block "+strconv.Itoa(i), err)
	}
	var b Block
	copy(b[:], given)
	return b
}

// Spoilt throws that a block is not as it was written, though the device told no error at the read.
func (v *Volume) Spoilt(i int) {
	Throw(&failure{"read of block " + strconv.Itoa(i), "it is not as it was written"})
}

// Save writes a block. The device gets a copy, since it may go on using what it was given.
func (v *Volume) Save(i int, b Block) {
	if err := v.Write(i, b[:]); err != nil {
		fail("write of block "+strconv.Itoa(i), err)
	}
}

// Settle makes sure of all that was saved.
func (v *Volume) Settle() {
	if err := v.Flush(); err != nil {
		fail("flush", err)
	}
}
