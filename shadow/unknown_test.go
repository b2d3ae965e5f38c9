package shadow

import (
	"fmt"
	"maps"
	"math"
	"math/rand"
	"slices"
	"strings"
	"testing"

	"shadow/api"
	"shadow/code"
	"shadow/head"
	"shadow/node"
	"shadow/volume"
)

// unknown opens a store on bytes of which nothing is known, and goes on with it, as with any; it tells whether there was one.
func unknown(t *testing.T, what string, d *api.Disk, r *rand.Rand, calls int) bool {
	t.Helper()
	before, writes := d.Bytes(), d.Writes()
	x, err := Open(d)
	if d.Bytes() != before || d.Writes() != writes {
		t.Fatalf("P4: Open of %s writes", what)
	}
	if err != nil {
		want(t, "P13: Open of "+what, err, api.ErrCorrupt)
		if x != nil {
			t.Fatalf("P1: Open of %s: a store beside an error", what)
		}
		return false
	}
	y := begin(t, x, r.Intn(2) == 0)
	l := rising(t, what, y)
	both(t, what, y, l, r)
	s := sees(t, y)
	want(t, "P9: Abort", y.Abort(), api.OK)
	beside(t, what, x, l, r)
	m := &maybe{T: t, r: r, d: &held{d}, x: x, may: []string{s}, was: []string{s}}
	if r.Intn(2) == 0 {
		m.cut()
	}
	m.goOn(calls)
	return true
}

// rising are the pairs that a transaction sees: their keys rise, and are keys, and their values are values.
func rising(t *testing.T, what string, y *Txn) []api.Pair {
	t.Helper()
	l, err := all(y, "", last)
	want(t, "P13, P7: All, "+what, err, api.OK)
	for i, p := range l {
		if len(p.Key) < 1 || len(p.Key) > api.MaxKey || len(p.Value) > api.MaxValue || i > 0 && l[i-1].Key >= p.Key {
			t.Fatalf("P13: %s: the keys do not rise: %v", what, l)
		}
	}
	return l
}

// both holds what cursors and Get tell, both ways, against the pairs.
func both(t *testing.T, what string, y *Txn, l []api.Pair, r *rand.Rand) {
	t.Helper()
	c, n := cursor(t, y), 0
	for p, there, err := c.First(); there || err != nil; p, there, err = c.Next() {
		if err != nil || n >= len(l) || p != l[n] {
			t.Fatalf("P13, P8: %s: the %d-th is %v, %v", what, n, p, err)
		}
		if v, is, err := y.Get(p.Key); v != p.Value || !is || err != nil {
			t.Fatalf("P13, P6: %s: Get(%q): %q, %v, %v", what, p.Key, v, is, err)
		}
		n++
	}
	for p, there, err := c.Last(); there || err != nil; p, there, err = c.Prev() {
		if n--; err != nil || n < 0 || p != l[n] {
			t.Fatalf("P13, P8: %s: back at %d: %v, %v", what, n, p, err)
		}
	}
	if n != 0 {
		t.Fatalf("P13, P8: %s: a cursor goes to %d pairs less backward", what, n)
	}
	for range 5 {
		k := string([]byte{byte(r.Intn(256)), byte(r.Intn(256))}[:r.Intn(3)])
		behind := "none"
		if i := slices.IndexFunc(l, func(p api.Pair) bool { return p.Key >= k }); i >= 0 {
			behind = l[i].Key
		}
		if s := step(c.Seek(k)); s != behind {
			t.Fatalf("P13, P8: %s: Seek(%q): %q, want %q", what, k, s, behind)
		}
	}
}

// beside makes changes, and the same in a map, and holds what the transaction sees then against that.
func beside(t *testing.T, what string, x *DB, l []api.Pair, r *rand.Rand) {
	t.Helper()
	m := map[string]string{}
	for _, p := range l {
		m[p.Key] = p.Value
	}
	y := begin(t, x, true)
	for range r.Intn(40) {
		k := string([]byte{byte('a' + r.Intn(3)), byte('a' + r.Intn(26))}[:1+r.Intn(2)])
		if len(l) > 0 && r.Intn(2) == 0 {
			k = l[r.Intn(len(l))].Key
		}
		if r.Intn(2) == 0 {
			want(t, "P6: Delete, "+what, y.Delete(k), api.OK)
			delete(m, k)
			continue
		}
		v := strings.Repeat("w", r.Intn(13))
		if err := y.Put(k, v); err == nil {
			m[k] = v
		} else {
			want(t, "P6: Put, "+what, err, api.ErrSpace)
		}
	}
	var then []api.Pair
	for _, k := range slices.Sorted(maps.Keys(m)) {
		then = append(then, api.Pair{Key: k, Value: m[k]})
	}
	if got := rising(t, what, y); !slices.Equal(got, then) {
		t.Fatalf("P13, P6: %s: a transaction sees %v, want %v", what, got, then)
	}
	both(t, what, y, then, r)
	want(t, "P9: Abort", y.Abort(), api.OK)
}

// times are the bytes of a disk behind a Format and behind each of some Commits, some of them cut off.
func times(t *testing.T, blocks int, r *rand.Rand) []string {
	t.Helper()
	d := formatted(t, blocks, 1)
	out := []string{d.Bytes()}
	for range 2 + r.Intn(5) {
		x := open(t, d)
		y := begin(t, x, true)
		for range 1 + r.Intn(12) {
			k := fmt.Sprintf("%0*d", 1+r.Intn(8), r.Intn(20))
			y.Put(k[:min(len(k), api.MaxKey)], strings.Repeat("v", r.Intn(13)))
		}
		d.Off(r.Intn(20))
		y.Commit()
		d = d.After([]int{15, 15, r.Intn(16), 15, r.Intn(16)})
		out = append(out, d.Bytes())
	}
	return out
}

// place is one of the blocks that are likely to be read.
func place(blocks int, r *rand.Rand) int {
	return r.Intn([]int{2, 8, blocks}[r.Intn(3)]) * api.Block
}

// spoil changes bytes of the last time: bits are turned, blocks exchanged, written over, or put back from an earlier time.
func spoil(blocks int, were []string, r *rand.Rand) []byte {
	b := []byte(were[len(were)-1])
	for range 1 + r.Intn(4) {
		to, from := place(blocks, r), place(blocks, r)
		one, other := b[to:to+api.Block], b[from:from+api.Block]
		switch r.Intn(7) {
		case 0:
			for range 2 + r.Intn(4) {
				one[r.Intn(api.Block)] ^= 1 << r.Intn(8)
			}
		case 1:
			copy(one, other)
		case 2:
			were := slices.Clone(one)
			copy(one, other)
			copy(other, were)
		case 3, 4:
			copy(one, were[r.Intn(len(were))][to:])
		case 5:
			clear(one)
		default:
			r.Read(one[:r.Intn(api.Block)])
		}
	}
	return b
}

// number is that of a head: a low one, one that wraps round soon, or any.
func number(r *rand.Rand) uint64 {
	return []uint64{uint64(r.Intn(8)), math.MaxUint64 - uint64(r.Intn(2)), 1<<63 - uint64(r.Intn(3)), r.Uint64()}[r.Intn(4)]
}

// byHand lays heads by hand, with right sums, that lead anywhere.
func byHand(blocks int, b []byte, r *rand.Rand) {
	d := api.Laid(blocks, string(b))
	v := volume.On(d)
	for range 1 + r.Intn(2) {
		at := r.Intn(blocks)
		root := node.Place{Block: at, Sum: code.Sum(b[at*api.Block : (at+1)*api.Block])}
		switch r.Intn(6) {
		case 0:
			root.Block = r.Intn(1 << 16)
		case 1:
			root = node.Place{}
		}
		head.Lay(v, head.Head{Number: number(r), Root: root})
	}
	copy(b, d.Bytes())
}

// Bytes that are nearly those of a store.
func TestNearlyAStore(t *testing.T) {
	t.Parallel()
	stores := 0
	for seed := range int64(4000) {
		r := rand.New(rand.NewSource(seed))
		blocks := 12 + r.Intn(20)
		b := spoil(blocks, times(t, blocks, r), r)
		if r.Intn(2) == 0 {
			byHand(blocks, b, r)
		}
		if unknown(t, fmt.Sprint("nearly a store, seed ", seed), api.Laid(blocks, string(b)), r, 12) {
			stores++
		}
	}
	if stores < 400 || stores > 3600 {
		t.Errorf("P13: of 4000 disks %d are stores", stores)
	}
}

// Bytes of all kinds, that are none of a store's: nothing is found, and Format makes a store of them.
func TestUnknownBytes(t *testing.T) {
	r := rand.New(rand.NewSource(1))
	good := formatted(t, 8, 2).Bytes()
	for i := range 3000 {
		b := []byte(good)
		if i%3 == 0 {
			r.Read(b)
		}
		for range r.Intn(40) {
			b[r.Intn(2*api.Block)] = byte(r.Intn(256))
		}
		d := api.Laid(8, string(b))
		unknown(t, "unknown bytes", d, r, 0)
		want(t, "P3: Format of unknown bytes", Format(d), api.OK)
		if !unknown(t, "a store on unknown bytes", d, r, 3) {
			t.Fatal("P3: Format of unknown bytes makes no store")
		}
	}
}

// grower makes trees by hand, with right sums, which may be wrong in some other way.
type grower struct {
	r     *rand.Rand
	v     *volume.Volume
	free  []int  // blocks in which nothing lies yet
	key   uint64 // the last one that was given
	wrong int    // about one of so many nodes and keys is wrong (0: none)
}

// err: is this one to be wrong?
func (g *grower) err() bool { return g.wrong > 0 && g.r.Intn(g.wrong) == 0 }

// next is a key behind the last one; or not, if it is wrong. They are of two to eight bytes.
func (g *grower) next() string {
	g.key += 1 + uint64(g.r.Intn(3))
	k := g.key
	if g.err() {
		k -= uint64(g.r.Intn(6))
	}
	return fmt.Sprintf("%c%c%s", 'a'+k/26%26, 'a'+k%26, strings.Repeat("x", g.r.Intn(7)))
}

// grow lays a node of a level, with all below it, to which a link with the key leads.
func (g *grower) grow(level int, key string, least int) node.Place {
	n := &node.Node{Level: level}
	count := least + g.r.Intn(2)
	if g.err() {
		count = g.r.Intn(4)
	}
	for i := range count {
		if level == 0 {
			n.Pairs = append(n.Pairs, node.Pair{Pair: api.Pair{Key: g.next(), Value: strings.Repeat("v", g.r.Intn(9))}})
			continue
		}
		if i > 0 || g.err() {
			key = g.next()
		}
		n.Links = append(n.Links, node.Link{Key: key, Place: g.grow(g.below(level), key, node.Least)})
	}
	return n.Lay(g.v, g.block())
}

// below is the level below another, if it is right.
func (g *grower) below(level int) int {
	if g.err() {
		return g.r.Intn(level)
	}
	return level - 1
}

// block is one in which nothing lies, if it is right, and if there is one.
func (g *grower) block() int {
	if g.err() || len(g.free) == 0 {
		return g.r.Intn(g.v.Blocks())
	}
	at := g.free[0]
	g.free = g.free[1:]
	return at
}

// grown is a disk with a tree that was made by hand, and heads; in all other blocks lies anything.
func grown(blocks int, levels int, wrong int, r *rand.Rand) *api.Disk {
	b := make([]byte, blocks*api.Block)
	r.Read(b)
	d := api.Laid(blocks, string(b))
	g := &grower{r: r, v: volume.On(d), wrong: wrong}
	for _, i := range r.Perm(blocks) {
		if i >= head.Slots {
			g.free = append(g.free, i)
		}
	}
	root := g.grow(levels-1, "", 2)
	n := number(r)
	if r.Intn(2) == 0 {
		head.Lay(g.v, head.Head{Number: n - 1 - 2*uint64(r.Intn(3)), Root: g.grow(0, "", 1)})
	}
	head.Lay(g.v, head.Head{Number: n, Root: root})
	return d
}

// Trees that were made by hand: those that are right are stores, of the others some; and they go on as stores, on devices that they may fill.
func TestGrown(t *testing.T) {
	t.Parallel()
	stores, seeds := map[bool]int{}, 1500
	for seed := range int64(seeds) {
		r := rand.New(rand.NewSource(seed))
		levels := 1 + r.Intn(4)
		blocks := []int{0, 8, 14, 30, 120}[levels] + r.Intn(20)
		wrong := []int{0, 10, 60}[r.Intn(3)]
		if wrong == 0 {
			blocks = api.MaxBlocks
		}
		if unknown(t, fmt.Sprint("a tree made by hand, seed ", seed), grown(blocks, levels, wrong, r), r, 10) {
			stores[wrong > 0]++
		} else if wrong == 0 {
			t.Fatalf("P4: seed %d: a right tree is no store", seed)
		}
	}
	if stores[true] < seeds/20 || stores[true] > seeds*2/3-seeds/20 {
		t.Errorf("P13: of some %d disks with wrong trees %d are stores", seeds*2/3, stores[true])
	}
}

// A tree that fills its device to the last block: what cannot be done is answered with ErrSpace, the rest is done.
func TestFilled(t *testing.T) {
	for _, n := range []int{17, 20, 53, 200, 400, 790} {
		blocks := open(t, stored(t, api.MaxBlocks, keys(n)...)).blocks + head.Slots
		d := stored(t, blocks, keys(n)...)
		unknown(t, "a filled device", d.After(nil), rand.New(rand.NewSource(1)), 20)
		x := open(t, d)
		y := begin(t, x, true)
		was := sees(t, y)
		want(t, "P6: Put on a filled device", y.Put("k000", "x"), api.ErrSpace)
		want(t, "P6: Delete", y.Delete("k000"), api.OK)
		want(t, "P9: Commit on a filled device", y.Commit(), api.ErrSpace)
		found(t, "a filled device", d.After(nil), was)
		commit(t, x, keys(n)...)
		found(t, "a device that was filled", d.After(nil), "")
	}
}
