package head

import (
	"math"
	"testing"

	"shadow/api"
	"shadow/node"
	"shadow/volume"
)

// with is a disk on which heads of these numbers were laid, in this order.
func with(numbers ...uint64) *api.Disk {
	d := api.NewDisk(api.MinBlocks)
	for _, n := range numbers {
		Lay(volume.On(d), Head{Number: n})
	}
	return d
}

// newest is the number of the head that holds, on a disk.
func newest(d *api.Disk) (uint64, bool) {
	h, ok := Newest(volume.On(d))
	return h.Number, ok
}

func TestNewest(t *testing.T) {
	const most = math.MaxUint64
	for _, c := range []struct {
		laid []uint64
		want uint64
		ok   bool
	}{
		{nil, 0, false},
		{[]uint64{0}, 0, true},
		{[]uint64{1}, 1, true},
		{[]uint64{1, 2}, 2, true},
		{[]uint64{1, 2, 3}, 3, true},
		{[]uint64{most - 1, most}, most, true},
		{[]uint64{most, 0}, 0, true},
		{[]uint64{most, 0, 1}, 1, true},
		{[]uint64{1 << 63, 1<<63 + 1}, 1<<63 + 1, true},
		{[]uint64{1<<63 - 1, 1 << 63}, 1 << 63, true},
		{[]uint64{4, 101}, 101, true}, // far apart, as only unknown bytes can be
	} {
		if n, ok := newest(with(c.laid...)); n != c.want || ok != c.ok {
			t.Errorf("P4: of the heads %d the newest is %d, %v; want %d, %v", c.laid, n, ok, c.want, c.ok)
		}
	}
}

func TestNextIsNewerElsewhere(t *testing.T) {
	for _, n := range []uint64{0, 1, 2, 1<<63 - 1, 1 << 63, math.MaxUint64 - 1, math.MaxUint64} {
		h := Head{Number: n}
		next := h.Next(node.Place{})
		if h.newer(h) || !next.newer(h) || h.newer(next) {
			t.Errorf("P4: the head behind %d is not newer", n)
		}
		if next.place() == h.place() {
			t.Errorf("P3: the head behind %d is written over it", n)
		}
		if p := h.place(); p < 0 || p >= Slots {
			t.Errorf("P3: the head %d lies in block %d", n, p)
		}
	}
}

// What a head leads to is found as it was laid, behind a head that led elsewhere.
func TestRoot(t *testing.T) {
	for _, root := range []node.Place{{}, {Block: 2, Sum: 1}, {Block: 399, Sum: math.MaxUint64}, {Block: 256, Sum: 1 << 63}} {
		v := volume.On(with(7))
		h := Head{Number: 7, Root: node.Place{Block: 5, Sum: 5}}.Next(root)
		Lay(v, h)
		if got, ok := Newest(v); !ok || got != h || got != (Head{8, root}) {
			t.Errorf("P4: laid %v, found %v, %v", h, got, ok)
		}
	}
}

// A bit of the head's sector that is turned undoes the head; the other sectors of its block may be of another write.
func TestBits(t *testing.T) {
	for _, n := range []uint64{0, 1, 77, math.MaxUint64} {
		d := with(n)
		first := int(n%Slots) * api.Block * 8
		for bit := 0; bit < api.Block*8; bit++ {
			got, ok := newest(d.Turned(first + bit))
			if inside := bit < api.Sector*8; inside && ok || !inside && (!ok || got != n) {
				t.Errorf("P4: head %d, bit %d turned: %d, %v", n, bit, got, ok)
			}
		}
	}
}

// Where the newest head is undone, the one ahead of it holds.
func TestOneOfTwo(t *testing.T) {
	d := with(5, 6)
	for slot, want := range map[int]uint64{0: 5, 1: 6} {
		if n, ok := newest(d.Turned(slot * api.Block * 8)); !ok || n != want {
			t.Errorf("P4: the head in block %d is undone: %d, %v", slot, n, ok)
		}
	}
}

func TestWrongPlace(t *testing.T) {
	s := with(4).Bytes()
	moved := s[api.Block:2*api.Block] + s[:api.Block] + s[2*api.Block:]
	if n, ok := newest(api.Laid(api.MinBlocks, moved)); ok {
		t.Errorf("P4: a head of block 0 is taken for %d in block 1", n)
	}
}

// A head that is laid is there wholly, or the one ahead of it holds still; behind Lay it is sure.
func TestLayCut(t *testing.T) {
	for _, old := range []uint64{2, 3, math.MaxUint64 - 1, math.MaxUint64} {
		for at := 0; at <= 2; at++ {
			for keep := 0; keep < 16; keep++ {
				d := with(old-1, old)
				d.Off(at)
				err := volume.Catch("Lay", func() { Lay(volume.On(d), Head{Number: old + 1}) })
				n, ok := newest(d.After([]int{keep}))
				if !ok || n != old+1 && (err == nil || n != old) {
					t.Errorf("P3: laid %d (%v), off behind %d calls, sectors %b: %d, %v", old+1, err, at, keep, n, ok)
				}
			}
		}
	}
}
