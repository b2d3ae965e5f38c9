package node

import (
	"fmt"
	"math/rand"
	"reflect"
	"slices"
	"strings"
	"testing"

	"shadow/api"
	"shadow/code"
	"shadow/volume"
)

func pair(key, value string) Pair {
	return Pair{api.Pair{Key: key, Value: value}}
}

// pairs are so many, with keys and values of these lengths.
func pairs(n int, k int, v int) []Pair {
	var list []Pair
	for i := range n {
		list = append(list, pair(string([]byte{byte('a' + i)})+strings.Repeat("k", k-1), strings.Repeat("v", v)))
	}
	return list
}

func links(n int, k int) []Link {
	var list []Link
	for i := range n {
		l := Link{Place: Place{Block: 399 - i, Sum: 1<<63 + uint64(i)}}
		if k > 0 {
			l.Key = string([]byte{byte('a' + i)}) + strings.Repeat("k", k-1)
		}
		list = append(list, l)
	}
	return list
}

// nodes are some that a block has room for, of all shapes.
func nodes() []*Node {
	list := []*Node{{}, {Level: 1}}
	for n := 1; n <= room; n++ {
		for k := 0; k <= api.MaxKey; k++ {
			for _, v := range []int{0, 1, 11, 12} {
				if k > 0 && n*(1+k+v) <= room {
					list = append(list, &Node{Pairs: pairs(n, k, v)})
				}
			}
			if n*(linkBytes+k) <= room {
				list = append(list, &Node{Level: 1 + n, Links: links(n, k)})
			}
		}
	}
	return list
}

func TestThereAndBack(t *testing.T) {
	for _, n := range nodes() {
		got, ok := parse(n.Block())
		if !ok || !reflect.DeepEqual(got, n) {
			t.Errorf("laid %+v, found %+v, %v", n, got, ok)
		}
	}
}

// The greatest pairs and links there are: a node that has no room for its entries has enough of them for two nodes, wherever it is halved.
func TestRoom(t *testing.T) {
	for name, n := range map[string]int{
		"pairs": measure(pairs(Least, api.MaxKey, api.MaxValue)),
		"links": measure(links(Least, api.MaxKey)),
	} {
		if 2*n > room {
			t.Errorf("P11: %d %s take %d bytes of %d", Least, name, n, room)
		}
	}
}

func TestMeasure(t *testing.T) {
	for _, n := range nodes() {
		if m, w := measure(n.Pairs), len(write(nil, n.Pairs)); m != w {
			t.Errorf("%d pairs are measured %d, written %d", len(n.Pairs), m, w)
		}
		if m, w := measure(n.Links), len(write(nil, n.Links)); m != w {
			t.Errorf("%d links are measured %d, written %d", len(n.Links), m, w)
		}
	}
}

// halved looks at the halves of a list that is no greater than two nodes can become: one, and a neighbour with too few entries.
func halved[E entry](t *testing.T, list []E, same func(a, b []E) bool) {
	t.Helper()
	halves := halve(list)
	if !same(slices.Concat(halves...), list) {
		t.Errorf("halves %v of %v", halves, list)
	}
	if fits := measure(list) <= room; fits != (len(halves) == 1) || len(halves) > 2 {
		t.Fatalf("%d bytes are halved into %d", measure(list), len(halves))
	}
	if len(halves) == 2 && max(measure(halves[0]), measure(halves[1])) > measure(list)/2+21 {
		t.Errorf("%d bytes are halved into %d and %d", measure(list), measure(halves[0]), measure(halves[1]))
	}
	for _, h := range halves {
		if measure(h) > room || len(halves) == 2 && len(h) < Least {
			t.Errorf("a half of %d bytes, %d entries, of %d bytes, %d entries", measure(h), len(h), measure(list), len(list))
		}
	}
}

func TestHalve(t *testing.T) {
	r := rand.New(rand.NewSource(1))
	pairsAlike := func(a, b []Pair) bool { return slices.Equal(a, b) }
	linksAlike := func(a, b []Link) bool { return slices.Equal(a, b) }
	for range 20000 {
		var p []Pair
		var l []Link
		small, great := 1+r.Intn(api.MaxKey), 1+r.Intn(api.MaxKey)
		for measure(p) <= room+2*21 {
			p = append(p, pair(strings.Repeat("k", []int{small, great}[r.Intn(2)]), strings.Repeat("v", r.Intn(13)*r.Intn(2))))
			halved(t, p, pairsAlike)
		}
		for measure(l) <= room+2*19 {
			l = append(l, Link{Key: strings.Repeat("k", []int{small, great}[r.Intn(2)]-1)})
			halved(t, l, linksAlike)
		}
	}
	// Some that are great, at either end of many that are small.
	for n := 1; n < 8; n++ {
		for small := 1; small <= 60; small++ {
			great, rest := pairs(n, 8, 12), pairs(small, 1, 0)
			halvedIfFair(t, slices.Concat(great, rest), pairsAlike)
			halvedIfFair(t, slices.Concat(rest, great), pairsAlike)
		}
	}
	halved(t, []Pair(nil), pairsAlike)
}

func halvedIfFair(t *testing.T, list []Pair, same func(a, b []Pair) bool) {
	t.Helper()
	if measure(list) <= room+2*21 {
		halved(t, list, same)
	}
}

// A half is not to be changed by what is appended to the other.
func TestHalvesApart(t *testing.T) {
	list := pairs(10, 8, 12)
	halves := halve(list)
	_ = append(halves[0], pair("x", "x"))
	if !slices.Equal(list, pairs(10, 8, 12)) {
		t.Error("what is appended to a half is written into the other")
	}
}

func TestLinksToHalves(t *testing.T) {
	p := pairs(8, 8, 12)
	l := Leaves("a", p)
	if len(l) != 2 || l[0].Key != "a" || l[1].Key != l[1].New.Pairs[0].Key || l[0].New.Level != 0 || l[1].New.Level != 0 || l[0].New.Count()+l[1].New.Count() != 8 {
		t.Errorf("%+v", l)
	}
	if l := Leaves("a", p[:5]); len(l) != 1 || l[0].Key != "a" || !slices.Equal(l[0].New.Pairs, p[:5]) {
		t.Errorf("%+v", l)
	}
	b := Branches("", 3, links(9, 8))
	if len(b) != 2 || b[0].Key != "" || b[1].Key != b[1].New.Links[0].Key || b[0].New.Level != 3 || b[1].New.Level != 3 || b[0].New.Count()+b[1].New.Count() != 9 {
		t.Errorf("%+v", b)
	}
}

// Blocks that are no node: lengths that no key has, and no value; entries that do not end; bytes behind them.
func TestNoNode(t *testing.T) {
	block := func(b ...byte) volume.Block {
		var out volume.Block
		copy(out[:], b)
		return out
	}
	full := func(level byte, count byte, fill byte) volume.Block {
		b := block(level, count)
		for i := entriesAt; i < len(b); i++ {
			b[i] = fill
		}
		return b
	}
	for name, b := range map[string]volume.Block{
		"a key of 0 bytes":             block(0, 1, 0x00),
		"a key of 9 bytes":             block(0, 1, 0x90, 1, 2, 3, 4, 5, 6, 7, 8, 9),
		"a value of 13 bytes":          block(0, 1, 0x1d, 1, 1, 2, 3, 4, 5, 6, 7, 8, 9, 10, 11, 12, 13),
		"a byte behind a pair":         block(0, 1, 0x10, 'a', 7),
		"a byte behind none":           block(0, 0, 7),
		"a link's key of 9 bytes":      block(1, 1, 2, 0, 1, 2, 3, 4, 5, 6, 7, 8, 9, 1, 2, 3, 4, 5, 6, 7, 8, 9),
		"a byte behind a link":         block(1, 1, 2, 0, 1, 2, 3, 4, 5, 6, 7, 8, 0, 7),
		"pairs without end":            full(0, 255, 0x11),
		"pairs that are cut off":       full(0, 7, 0x8c),
		"a pair more than there are":   full(0, 64, 0x10),
		"links without end":            full(1, 255, 0),
		"links that are cut off":       full(1, 7, 8),
		"a link that is cut off short": full(1, 12, 0),
	} {
		if n, ok := parse(b); ok {
			t.Errorf("P13: %s: a node %+v", name, n)
		}
	}
}

func TestUnknownBlocks(t *testing.T) {
	r := rand.New(rand.NewSource(1))
	good := nodes()
	for range 50000 {
		b := good[r.Intn(len(good))].Block()
		for range r.Intn(4) {
			b[r.Intn(len(b))] = byte(r.Intn(256))
		}
		n, ok := parse(b)
		if ok && n.Block() != b {
			t.Fatalf("P13: a node that would be laid otherwise: %v", b)
		}
		if ok && (measure(n.Pairs)+measure(n.Links) > room || n.Level == 0 && n.Links != nil || n.Level > 0 && n.Pairs != nil) {
			t.Fatalf("P13: a node %+v", n)
		}
	}
}

func TestRead(t *testing.T) {
	for _, n := range []*Node{{Pairs: pairs(6, 8, 12)}, {Pairs: pairs(1, 1, 0)}, {Level: 2, Links: links(6, 8)}} {
		d := api.NewDisk(20)
		v := volume.On(d)
		b := n.Block()
		v.Save(7, b)
		v.Settle()
		at := Place{Block: 7, Sum: code.Sum(b[:])}
		got, ok := Read(v, at)
		if !ok || !reflect.DeepEqual(got, n) {
			t.Errorf("laid %+v, read %+v, %v", n, got, ok)
		}
		if _, ok := Read(v, Place{Block: 8, Sum: at.Sum}); ok {
			t.Error("P13: a node is read where none was laid")
		}
		if _, ok := Read(v, Place{Block: 7, Sum: at.Sum + 1}); ok {
			t.Error("P13: another node is taken for the one that was laid")
		}
		for bit := range api.Block * 8 {
			if _, ok := Read(volume.On(d.Turned(7*api.Block*8+bit)), at); ok {
				t.Errorf("P13: bit %d turned, and the node is read", bit)
			}
		}
		d.Off(0)
		if err := volume.Catch("Read", func() { Read(v, at) }); fmt.Sprint(err) == "<nil>" {
			t.Error("P1: a device without power gives a node")
		}
	}
}

// Blocks of a sum that is right, but that are no node, are not read, either.
func TestReadNoNode(t *testing.T) {
	d := api.NewDisk(20)
	v := volume.On(d)
	b := volume.Block{0, 1, 0x90}
	v.Save(7, b)
	if _, ok := Read(v, Place{Block: 7, Sum: code.Sum(b[:])}); ok {
		t.Error("P13: what is no node is read")
	}
}

// A node that is laid is read again at its place, and only there.
func TestLay(t *testing.T) {
	d := api.NewDisk(api.MaxBlocks)
	v := volume.On(d)
	for i, n := range []*Node{
		{Pairs: pairs(1, 1, 1)},
		{Level: 1, Links: []Link{{Place: Place{2, 3}}, {Key: "b", Place: Place{399, 1 << 63}}}},
	} {
		for _, block := range []int{2, 20, 255, 399} {
			at := n.Lay(v, block)
			got, ok := Read(v, at)
			if !ok || at.Block != block || !reflect.DeepEqual(got, n) {
				t.Errorf("P9: the %d-th node, laid in block %d: %v, %v", i, block, at, ok)
			}
			if _, ok := Read(v, Place{block - 1, at.Sum}); ok {
				t.Errorf("P9: the %d-th node, laid in block %d, is read ahead of it", i, block)
			}
		}
	}
	if d.Writes() != 8 {
		t.Errorf("P12: eight nodes take %d writes", d.Writes())
	}
}

// Levels is the height of the highest tree that a device has blocks for.
func TestLevels(t *testing.T) {
	level, nodes, levels := 1, 1, 1
	for next := 2; nodes+next <= api.MaxBlocks; next *= Least {
		level, nodes, levels = next, nodes+next, levels+1
	}
	if levels != Levels {
		t.Errorf("P4: a tree of %d nodes, %d of them the lowest, has %d levels", nodes, level, levels)
	}
}
