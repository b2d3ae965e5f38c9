package tree

import (
	"errors"
	"fmt"
	"maps"
	"math/rand"
	"testing"

	"shadow/api"
	"shadow/head"
	"shadow/node"
	"shadow/volume"
)

// lies are the blocks in which a tree lies, of which every node is read.
func lies(t Tree) map[int]int {
	out := map[int]int{}
	var walk func(l node.Link)
	walk = func(l node.Link) {
		if l.New == nil {
			out[l.Block]++
		}
		for _, below := range t.node(l, node.Levels).Links {
			walk(below)
		}
	}
	if !t.empty() {
		walk(t.root)
	}
	return out
}

// lay lays a tree where there is room beside others, and is it as it lies then; it tells what was thrown.
func lay(t Tree, kept ...Tree) (then Tree, size int, err error) {
	err = volume.Catch("Lay", func() {
		var free []int
		free, size = t.Room(kept...)
		then = At(t.on, t.Lay(free))
	})
	return then, size, err
}

// A tree is laid beside those that are kept: they stay, and so does what it shares with them.
func TestLay(t *testing.T) {
	for _, k := range kinds() {
		r := rand.New(rand.NewSource(4))
		d := api.NewDisk(api.MaxBlocks)
		tr, m := At(volume.On(d), node.Place{}), map[string]string{}
		kept, had := []Tree{tr}, []map[string]string{{}}
		for range 60 {
			for range r.Intn(12) {
				tr = changed(tr, m, k, r)
			}
			made, writes, before := tr.New(), d.Writes(), lies(tr)
			then, size, err := lay(tr, kept...)
			if err != nil {
				t.Fatal(err)
			}
			if d.Writes()-writes != made || d.Pending() != 0 {
				t.Fatalf("P9, P12: %d new nodes take %d writes, of which %d are not sure", made, d.Writes()-writes, d.Pending())
			}
			if err := corrupt(then); err != nil || then.Check() != size || size != len(before)+made || then.New() != 0 {
				t.Fatalf("P9: a tree of %d nodes is laid, and checked: %v", size, err)
			}
			same(t, then, m)
			for i := range kept {
				same(t, kept[i], had[i])
			}
			tr = then
			at := r.Intn(5)
			if at >= len(kept) {
				kept, had = append(kept, tr), append(had, maps.Clone(m))
			} else {
				kept[at], had[at] = tr, maps.Clone(m)
			}
		}
	}
}

// Blocks in which nothing lies that is kept are used, and no others: as many as there are.
func TestLayInWhatIsFree(t *testing.T) {
	for _, blocks := range []int{8, 12, 30} {
		for _, old := range []Tree{of(), of("a"), of(keys(9)...)} {
			d := api.NewDisk(blocks)
			v := volume.On(d)
			kept, size, err := lay(Tree{v, old.root}, At(v, node.Place{}))
			if err != nil {
				t.Fatal(err)
			}
			tr, free := At(v, node.Place{}), blocks-head.Slots-size
			for i := 0; tr.New() <= free; i++ {
				whole, writes := lies(kept), d.Writes()
				then, size, err := lay(tr, kept)
				if err != nil || size != tr.New() {
					t.Fatalf("P11: %d nodes in %d blocks: %v", tr.New(), free, err)
				}
				for at := range lies(then) {
					if whole[at] > 0 || at < head.Slots {
						t.Fatalf("P5, P9: a node is laid in block %d, which is used", at)
					}
				}
				if got := d.Writes() - writes; got != size {
					t.Fatalf("P12: %d nodes take %d writes", size, got)
				}
				tr = tr.Put(api.Pair{Key: fmt.Sprintf("%08d", i), Value: "0123456789ab"})
			}
			bytes, writes := d.Bytes(), d.Writes()
			_, _, err = lay(tr, kept)
			if !errors.Is(err, api.ErrSpace) || d.Bytes() != bytes || d.Writes() != writes || d.Pending() != 0 {
				t.Errorf("P9: %d nodes in %d blocks: %v, want ErrSpace, and nothing written", tr.New(), free, err)
			}
		}
	}
}

// What the device tells goes up, at each of its calls; what is kept stays.
func TestLayTold(t *testing.T) {
	for at, done := 0, false; !done; at++ {
		first, d := laid(of(keys(40)...))
		second, _, err := lay(first.Put(api.Pair{Key: "k020", Value: "x"}), first)
		if err != nil {
			t.Fatal(err)
		}
		third := second.Put(api.Pair{Key: "k030", Value: "y"}).Delete("k001")
		before := d.Told()
		d.Bad(at, 1)
		_, _, err = lay(third, first, second)
		if done = d.Told() == before; done != (err == nil) || !done && !errors.Is(err, api.ErrIO) {
			t.Errorf("P1: Lay, an error behind %d calls: %v", at, err)
		}
		d.Bad(0, 0)
		if corrupt(first) != nil || corrupt(second) != nil {
			t.Errorf("P9: Lay, an error behind %d calls, spoils what is kept", at)
		}
		if done && at < 5 {
			t.Errorf("P9: Lay makes %d calls", at)
		}
	}
}

// reads is a device that counts how often each block is read.
type reads struct {
	*api.Disk
	of map[int]int
}

func (d *reads) Read(i int) ([]byte, error) {
	d.of[i]++
	return d.Disk.Read(i)
}

// What has nothing below it is not read to lay another, and nothing is read twice, however many trees share it.
func TestLayReadsLittle(t *testing.T) {
	d := &reads{api.NewDisk(api.MaxBlocks), map[int]int{}}
	v := volume.On(d)
	tr := of(keys(100)...)
	first, _, err := lay(Tree{v, tr.root})
	if err != nil {
		t.Fatal(err)
	}
	second, _, err := lay(first.Put(api.Pair{Key: "k050", Value: "x"}), first)
	if err != nil {
		t.Fatal(err)
	}
	third := second.Put(api.Pair{Key: "k005", Value: "y"})
	clear(d.of)
	if _, _, err = lay(third, first, second, first, second); err != nil {
		t.Fatal(err)
	}
	if len(d.of) == 0 {
		t.Error("P9: nothing is read")
	}
	for at, n := range d.of {
		if b, _ := d.Disk.Read(at); n > 1 || b[0] == 0 {
			t.Errorf("P9: block %d, a node of level %d, is read %d times", at, b[0], n)
		}
	}
}
