package tree

import (
	"errors"
	"fmt"
	"maps"
	"math"
	"math/rand"
	"slices"
	"strings"
	"testing"

	"shadow/api"
	"shadow/code"
	"shadow/head"
	"shadow/node"
	"shadow/volume"
)

// laid is a tree all of whose nodes lie on a new disk, beside none of another.
func laid(t Tree) (Tree, *api.Disk) {
	d := api.NewDisk(api.MaxBlocks)
	to, next := volume.On(d), head.Slots-1
	var lay func(l node.Link) node.Place
	lay = func(l node.Link) node.Place {
		old := t.node(l, node.Levels)
		n := &node.Node{Level: old.Level, Pairs: old.Pairs}
		for _, below := range old.Links {
			n.Links = append(n.Links, node.Link{Key: below.Key, Place: lay(below)})
		}
		next++
		return n.Lay(to, next)
	}
	if t.empty() {
		return At(to, node.Place{}), d
	}
	root := lay(t.root)
	to.Settle()
	return At(to, root), d
}

// of is a tree of these keys, each with the value of its own name.
func of(keys ...string) Tree {
	t := At(volume.On(api.NewDisk(api.MaxBlocks)), node.Place{})
	for _, k := range keys {
		t = t.Put(api.Pair{Key: k, Value: k})
	}
	return t
}

// pairs are all that a tree has, from the first to the last.
func pairs(t Tree) []api.Pair {
	var out []api.Pair
	p, there := t.First(func(string) bool { return true })
	for there {
		out = append(out, p)
		at := p.Key
		p, there = t.First(func(k string) bool { return k > at })
	}
	return out
}

// backward are all, from the last to the first.
func backward(t Tree) []api.Pair {
	var out []api.Pair
	p, there := t.Last(func(string) bool { return true })
	for there {
		out = append(out, p)
		at := p.Key
		p, there = t.Last(func(k string) bool { return k < at })
	}
	return out
}

// levels tells how many there are.
func levels(t Tree) int {
	if t.empty() {
		return 0
	}
	return t.top().Level + 1
}

func sorted(m map[string]string) []api.Pair {
	var out []api.Pair
	for _, k := range slices.Sorted(maps.Keys(m)) {
		out = append(out, api.Pair{Key: k, Value: m[k]})
	}
	return out
}

// same holds a tree against a map.
func same(t *testing.T, tr Tree, m map[string]string) {
	t.Helper()
	want := sorted(m)
	if got := pairs(tr); !slices.Equal(got, want) {
		t.Fatalf("the tree has %v, want %v", got, want)
	}
	got := backward(tr)
	slices.Reverse(got)
	if !slices.Equal(got, want) {
		t.Fatalf("backward the tree has %v, want %v", got, want)
	}
	for _, p := range want {
		if v, there := tr.Get(p.Key); !there || v != p.Value {
			t.Fatalf("Get(%q): %q, %v, want %q", p.Key, v, there, p.Value)
		}
	}
}

// asked holds all questions about one key against a map.
func asked(t *testing.T, tr Tree, m map[string]string, key string) {
	t.Helper()
	want := sorted(m)
	at, is := slices.BinarySearchFunc(want, key, func(p api.Pair, k string) int { return strings.Compare(p.Key, k) })
	if v, there := tr.Get(key); there != is || v != m[key] {
		t.Fatalf("Get(%q): %q, %v", key, v, there)
	}
	if p, there := tr.First(func(k string) bool { return k >= key }); there != (at < len(want)) || there && p != want[at] || !there && p != (api.Pair{}) {
		t.Fatalf("the first from %q on: %v, %v of %v", key, p, there, want)
	}
	if p, there := tr.Last(func(k string) bool { return k < key }); there != (at > 0) || there && p != want[at-1] || !there && p != (api.Pair{}) {
		t.Fatalf("the last ahead of %q: %v, %v of %v", key, p, there, want)
	}
}

// corrupt: is that what Check tells?
func corrupt(tr Tree) error {
	return volume.Catch("Check", func() { tr.Check() })
}

// sound looks at the shape of a tree, as it would lie on a device.
func sound(t *testing.T, tr Tree, keys int) Tree {
	t.Helper()
	there, _ := laid(tr)
	if err := corrupt(there); err != nil {
		t.Fatalf("P13: a tree is laid that is none: %v", err)
	}
	blocks := there.Check()
	if blocks > keys/2+1 || levels(there) > 6 {
		t.Fatalf("P11: %d keys take %d blocks on %d levels", keys, blocks, levels(there))
	}
	return there
}

// A kind of keys, and of values.
type kind struct {
	name  string
	key   func(r *rand.Rand) string
	value func(r *rand.Rand) string
}

func kinds() []kind {
	word := func(most int) func(r *rand.Rand) string {
		return func(r *rand.Rand) string {
			b := make([]byte, most)
			r.Read(b)
			return string(b)
		}
	}
	any := func(most int) func(r *rand.Rand) string {
		return func(r *rand.Rand) string { return strings.Repeat("v", r.Intn(most+1)) }
	}
	return []kind{
		{"short", func(r *rand.Rand) string { return word(1)(r) }, any(0)},
		{"long", func(r *rand.Rand) string { return fmt.Sprintf("%08d", r.Intn(500)) }, any(12)},
		{"longest", func(r *rand.Rand) string { return fmt.Sprintf("%08d", r.Intn(500)) }, func(r *rand.Rand) string { return "0123456789ab" }},
		{"mixed", func(r *rand.Rand) string { return word(1)(r) + strings.Repeat("\xff", 7*r.Intn(2)) }, any(12)},
		{"noughts", func(r *rand.Rand) string { return strings.Repeat("\x00", 1+r.Intn(7)) + word(1)(r)[:r.Intn(2)] }, any(12)},
		{"few", func(r *rand.Rand) string { return string([]byte{'a' + byte(r.Intn(9))}) }, any(12)},
	}
}

// Random changes, beside a map: of trees all new, all laid, and partly so.
func TestBesideAMap(t *testing.T) {
	for _, k := range kinds() {
		for _, often := range []int{3, 40, 1000000} {
			r := rand.New(rand.NewSource(1))
			tr, m := of(), map[string]string{}
			for i := range 1500 {
				key := k.key(r)
				if puts := 3 - i/300%3; r.Intn(4) < puts { // it grows, and shrinks, by turns
					value := k.value(r)
					tr = tr.Put(api.Pair{Key: key, Value: value})
					m[key] = value
				} else {
					tr = tr.Delete(key)
					delete(m, key)
				}
				if i%5 == 0 {
					asked(t, tr, m, k.key(r))
				}
				if i%often == 0 {
					tr = sound(t, tr, len(m))
				}
				if i%50 == 0 {
					same(t, tr, m)
				}
			}
			for key := range maps.Clone(m) {
				tr = tr.Delete(key)
				delete(m, key)
			}
			same(t, tr, m)
			if !tr.empty() || tr.New() != 0 {
				t.Errorf("%s: a tree without keys has nodes", k.name)
			}
		}
	}
}

// P12: a change makes two new nodes a level at most, and one more, where the tree grows by a level.
func TestNewNodes(t *testing.T) {
	for _, k := range kinds() {
		r := rand.New(rand.NewSource(2))
		tr := of()
		if tr.New() != 0 {
			t.Error("P12: an empty tree has new nodes")
		}
		most := 0
		for i := range 2000 {
			before := levels(tr)
			if r.Intn(2)+i/1000 == 0 || r.Intn(3) == 0 {
				tr = tr.Put(api.Pair{Key: k.key(r), Value: k.value(r)})
			} else {
				tr = tr.Delete(k.key(r))
			}
			n := tr.New()
			if grown := levels(tr) > before; n > 2*before && !(grown && n == 2*before+1) {
				t.Fatalf("P12: %s: a change of %d levels makes %d new nodes", k.name, before, n)
			}
			most = max(most, n)
			tr, _ = laid(tr)
			if tr.New() != 0 {
				t.Fatal("P12: a tree that is laid has new nodes")
			}
		}
		if most > 12 {
			t.Errorf("P12: %s: a change makes %d new nodes", k.name, most)
		}
	}
}

// What has not to be changed is shared: a key that is not there is not deleted.
func TestDeleteOfNone(t *testing.T) {
	tr, _ := laid(of("a", "c", "e"))
	for _, k := range []string{"\x00", "b", "d", "f", "aa"} {
		if then := tr.Delete(k); then != tr {
			t.Errorf("P6: Delete(%q) changes the tree", k)
		}
	}
}

// changed is a tree with a random change, which is made in a map, too.
func changed(tr Tree, m map[string]string, k kind, r *rand.Rand) Tree {
	key, value := k.key(r), k.value(r)
	if r.Intn(3) > 0 {
		m[key] = value
		return tr.Put(api.Pair{Key: key, Value: value})
	}
	delete(m, key)
	return tr.Delete(key)
}

// No tree is changed by what is made of it.
func TestTreesStay(t *testing.T) {
	for _, k := range kinds() {
		r := rand.New(rand.NewSource(3))
		tr, m := of(), map[string]string{}
		var trees []Tree
		var contents []map[string]string
		for i := range 400 {
			tr = changed(tr, m, k, r)
			if i%10 == 0 {
				trees, contents = append(trees, tr), append(contents, maps.Clone(m))
			}
			if i%100 == 0 {
				tr, _ = laid(tr)
			}
		}
		for i, old := range trees {
			same(t, old, contents[i])
		}
	}
}

// full is a tree whose leaves lie below links with short keys, and whose nodes above them are full: three of them, and a root. The n-th leaf has six pairs, the others three, of the greatest size.
func full(n int) (Tree, map[string]string) {
	v, next, m := volume.On(api.NewDisk(api.MaxBlocks)), head.Slots-1, map[string]string{}
	lay := func(key string, n *node.Node) node.Link {
		next++
		return node.Link{Key: key, Place: n.Lay(v, next)}
	}
	var root node.Node
	for j := range 30 {
		first := string([]byte{byte('A' + j)})
		leaf := &node.Node{}
		for i := range 6 {
			if i < 3 || j == n {
				p := api.Pair{Key: fmt.Sprintf("%s-----%02d", first, i), Value: "0123456789ab"}
				leaf.Pairs, m[p.Key] = append(leaf.Pairs, node.Pair{Pair: p}), p.Value
			}
		}
		switch j {
		case 0:
			first = ""
		case 5:
			first += "-"
		}
		root.Links = append(root.Links, lay(first, leaf))
	}
	above := node.Node{Level: 2}
	for j := 0; j < 30; j += 10 {
		above.Links = append(above.Links, lay(root.Links[j].Key, &node.Node{Level: 1, Links: root.Links[j : j+10]}))
	}
	return At(v, lay("", &above).Place), m
}

// A Delete may make a link's key longer, since the leaves at both sides of it share their pairs anew: the node that has the link may then have no room for it.
func TestLongerKeys(t *testing.T) {
	for n := range 30 {
		for hit := max(0, n-1); hit <= min(n+1, 29); hit++ {
			tr, m := full(n)
			if err := corrupt(tr); err != nil {
				t.Fatal(err)
			}
			key := fmt.Sprintf("%s-----00", string([]byte{byte('A' + hit)}))
			tr = tr.Delete(key)
			delete(m, key)
			if made := tr.New(); made > 2*3+1 {
				t.Errorf("P12: a Delete makes %d new nodes", made)
			}
			same(t, sound(t, tr, len(m)), m)
		}
	}
}

// keys are so many that rise.
func keys(n int) []string {
	var out []string
	for i := range n {
		out = append(out, fmt.Sprintf("k%03d", i))
	}
	return out
}

// Each block of a tree that is turned by a bit is seen when the tree is checked; and as a broken device, if it is read later.
func TestBits(t *testing.T) {
	tr, d := laid(of(keys(40)...))
	blocks := tr.Check()
	for bit := head.Slots * api.Block * 8; bit < (head.Slots+blocks)*api.Block*8; bit += 5 {
		there := At(volume.On(d.Turned(bit)), tr.root.Place)
		if err := corrupt(there); !errors.Is(err, api.ErrCorrupt) {
			t.Fatalf("P13: bit %d turned: %v, want ErrCorrupt", bit, err)
		}
		if err := volume.Catch("All", func() { pairs(there) }); !errors.Is(err, api.ErrIO) || !strings.Contains(err.Error(), "not as it was written") {
			t.Fatalf("P1: bit %d turned under a tree: %v, want ErrIO", bit, err)
		}
	}
}

// What the device tells goes up.
func TestDeviceTells(t *testing.T) {
	tr, d := laid(of(keys(40)...))
	calls := map[string]func(){
		"Get":    func() { tr.Get("k020") },
		"First":  func() { tr.First(func(k string) bool { return k > "k020" }) },
		"Last":   func() { tr.Last(func(k string) bool { return k < "k020" }) },
		"Put":    func() { tr.Put(api.Pair{Key: "k020x"}) },
		"Delete": func() { tr.Delete("k020") },
		"Check":  func() { tr.Check() },
	}
	reads := levels(tr)
	for name, call := range calls {
		for at := range reads {
			d.Bad(at, 1)
			if err := volume.Catch(name, call); !errors.Is(err, api.ErrIO) {
				t.Errorf("P1: %s, an error behind %d reads: %v", name, at, err)
			}
		}
	}
}

// shape is a tree that is laid by hand: a node, or what leads to nodes that are laid in other blocks.
type shape struct {
	level int
	keys  []string // of pairs, or of links
	below []shape
	block int // where it lies, if not in the next one
}

func leaf(keys ...string) shape { return shape{keys: keys} }

func (s shape) lay(v *volume.Volume, next *int) node.Place {
	n := &node.Node{Level: s.level}
	for i, k := range s.keys {
		if s.below == nil {
			n.Pairs = append(n.Pairs, node.Pair{Pair: api.Pair{Key: k}})
			continue
		}
		n.Links = append(n.Links, node.Link{Key: k, Place: s.below[i].lay(v, next)})
	}
	block := s.block
	if block == 0 {
		*next++
		block = *next
	}
	return n.Lay(v, block)
}

// branch is of level 1, over leaves.
func branch(keys []string, below ...shape) shape { return shape{level: 1, keys: keys, below: below} }

func checked(s shape) error {
	v := volume.On(api.NewDisk(20))
	next := head.Slots - 1
	var err error
	at := s.lay(v, &next)
	err = corrupt(At(v, at))
	return err
}

func TestCheckOfTrees(t *testing.T) {
	for name, s := range map[string]shape{
		"a pair":           leaf("a"),
		"pairs":            leaf("a", "b", "\xff\xff\xff\xff\xff\xff\xff\xff"),
		"two leaves":       branch([]string{"", "d"}, leaf("a", "b", "c"), leaf("d", "e", "f")),
		"a key of no pair": branch([]string{"", "c1"}, leaf("a", "b", "c"), leaf("d", "e", "f")),
	} {
		if err := checked(s); err != nil {
			t.Errorf("P4: %s: %v", name, err)
		}
	}
	if err := corrupt(of()); err != nil || of().Check() != 0 {
		t.Errorf("P4: an empty tree: %v", err)
	}
}

func TestCheckOfNone(t *testing.T) {
	abc, def := leaf("a", "b", "c"), leaf("d", "e", "f")
	ghi := leaf("g", "h", "i")
	two := []string{"", "d"}
	low := branch([]string{"", "d", "g"}, abc, def, ghi)
	high := branch([]string{"k", "n", "q"}, leaf("k", "l", "m"), leaf("n", "o", "p"), leaf("q", "r", "s"))
	over := func(level int, low, high shape) shape {
		return shape{level: level, keys: []string{"", "k"}, below: []shape{low, high}}
	}
	if err := checked(over(2, low, high)); err != nil {
		t.Errorf("P4: three levels: %v", err)
	}
	for name, s := range map[string]shape{
		"no pair":                 leaf(),
		"no link":                 {level: 1},
		"one link":                branch([]string{""}, abc),
		"keys that fall":          leaf("a", "c", "b"),
		"a key twice":             leaf("a", "b", "b"),
		"a first link with a key": branch([]string{"a", "d"}, abc, def),
		"links that fall":         branch([]string{"", "d", "a"}, abc, def, leaf("a", "b", "c")),
		"a key ahead of its link": branch([]string{"", "d"}, abc, leaf("c1", "e", "f")),
		"a key behind its link":   branch([]string{"", "d"}, leaf("a", "b", "d"), leaf("e", "f", "g")),
		"a link of a key ahead":   branch([]string{"", "c"}, abc, def),
		"a key in two leaves":     branch([]string{"", "c1"}, abc, leaf("c", "e", "f")),
		"too few pairs":           branch(two, leaf("a", "b"), def),
		"too few pairs behind":    branch(two, abc, leaf("d", "e")),
		"too few links":           over(2, branch(two, abc, def), high),
		"a block twice":           branch(two, abc, shape{keys: def.keys, block: 2}),
		"a level left out":        over(3, low, high),
		"a level too many":        over(1, low, high),
		"levels that differ":      over(2, low, leaf("k", "l", "m")),
		"links that are pairs":    {level: 0, keys: two, below: []shape{abc, def}},
		"pairs that are links":    {level: 1, keys: []string{"a", "b"}},
		"a longer first key":      over(2, low, branch([]string{"l", "n", "q"}, leaf("l", "l1", "m"), leaf("n", "o", "p"), leaf("q", "r", "s"))),
		"a head's block":          {keys: []string{"a"}, block: 1},
	} {
		if err := checked(s); !errors.Is(err, api.ErrCorrupt) {
			t.Errorf("P13: %s: %v, want ErrCorrupt", name, err)
		}
	}
}

// Places that no tree has.
func TestCheckOfPlaces(t *testing.T) {
	d := api.NewDisk(20)
	v := volume.On(d)
	b := (&node.Node{Pairs: []node.Pair{{Pair: api.Pair{Key: "a"}}}}).Block()
	for i := range 20 {
		v.Save(i, b)
	}
	sum := code.Sum(b[:])
	for _, at := range []int{-1, 0, 1, 20, 21, 399, 65535} {
		if err := corrupt(At(v, node.Place{Block: at, Sum: sum})); !errors.Is(err, api.ErrCorrupt) {
			t.Errorf("P13: a root in block %d: %v, want ErrCorrupt", at, err)
		}
	}
	for _, at := range []int{2, 19} {
		if err := corrupt(At(v, node.Place{Block: at, Sum: sum})); err != nil {
			t.Errorf("P4: a root in block %d: %v", at, err)
		}
		if err := corrupt(At(v, node.Place{Block: at})); !errors.Is(err, api.ErrCorrupt) {
			t.Errorf("P13: a root in block %d that is another: %v", at, err)
		}
	}
	if d.Told() != 0 {
		t.Error("P1: Check asks for blocks that are not there")
	}
}

// Two links lead to one and the same node.
func TestCheckOfOneNodeTwice(t *testing.T) {
	v := volume.On(api.NewDisk(20))
	at := (&node.Node{Pairs: []node.Pair{{Pair: api.Pair{Key: "d"}}, {Pair: api.Pair{Key: "e"}}, {Pair: api.Pair{Key: "f"}}}}).Lay(v, 5)
	root := (&node.Node{Level: 1, Links: []node.Link{{Place: at}, {Key: "g", Place: at}}}).Lay(v, 6)
	if err := corrupt(At(v, root)); !errors.Is(err, api.ErrCorrupt) {
		t.Errorf("P13: %v, want ErrCorrupt", err)
	}
}

// itself is a node, for block 2, whose links all lead to itself, with the right sum.
func itself() (*node.Node, node.Place) {
	at := node.Place{Block: 2, Sum: 0x0123456789abcdef}
	return &node.Node{Level: 1, Links: []node.Link{{Place: at}, {Key: " Cugn!Rb", Place: at}, {Key: "\x3d\x4d\x2c\x1e\x63\xab\x6d\xa5", Place: at}}}, at
}

// A node that leads to itself, which only unknown bytes have, or a device that gives others than were written: all that goes down ends.
func TestItself(t *testing.T) {
	n, at := itself()
	v := volume.On(api.NewDisk(20))
	if n.Lay(v, at.Block) != at {
		t.Fatal("P13: the node does not lead to itself: find another")
	}
	tr := At(v, at)
	if err := corrupt(tr); !errors.Is(err, api.ErrCorrupt) {
		t.Errorf("P13: Check: %v, want ErrCorrupt", err)
	}
	broken(t, tr)
}

// broken: the device is told to have broken down, however one goes down the tree.
func broken(t *testing.T, tr Tree) {
	t.Helper()
	for name, call := range map[string]func(){
		"Get":    func() { tr.Get("a") },
		"First":  func() { tr.First(func(k string) bool { return k > "a" }) },
		"Last":   func() { tr.Last(func(k string) bool { return k < "a" }) },
		"Put":    func() { tr.Put(api.Pair{Key: "a"}) },
		"Delete": func() { tr.Delete("a") },
	} {
		if err := volume.Catch(name, call); !errors.Is(err, api.ErrIO) || !strings.Contains(err.Error(), "not as it was written") {
			t.Errorf("P1: %s: %v, want ErrIO", name, err)
		}
	}
}

// Levels that do not fall, and a tree that is higher than any can be.
func TestLevelsFall(t *testing.T) {
	abc, def := leaf("a", "b", "c"), leaf("d", "e", "f")
	low := branch([]string{"", "d"}, abc, def)
	for name, s := range map[string]shape{
		"alike":    {level: 1, keys: []string{"", "k"}, below: []shape{low, low}},
		"rising":   {level: 1, keys: []string{"", "k"}, below: []shape{{level: 2, keys: []string{"", "d"}, below: []shape{abc, def}}, low}},
		"too many": {level: node.Levels, keys: []string{"", "d"}, below: []shape{abc, def}},
	} {
		t.Run(name, func(t *testing.T) {
			v, next := volume.On(api.NewDisk(20)), head.Slots-1
			broken(t, At(v, s.lay(v, &next)))
		})
	}
}

// The same, where room is sought beside such a tree, and where a node is made one with its neighbour.
func TestLevelsFallElsewhere(t *testing.T) {
	v, next := volume.On(api.NewDisk(20)), head.Slots-1
	low := branch([]string{"", "d"}, leaf("a", "b", "c"), leaf("d", "e", "f"))
	same := shape{level: 2, keys: []string{"", "k"}, below: []shape{{level: 2, keys: low.keys, below: low.below}, low}}
	behind := branch([]string{"", "d"}, leaf("a", "b", "c"), low)
	ahead := branch([]string{"", "d"}, low, leaf("d", "e", "f"))
	for name, call := range map[string]func(){
		"Room":             func() { At(v, node.Place{}).Room(At(v, same.lay(v, &next))) },
		"Delete":           func() { At(v, behind.lay(v, &next)).Delete("a") },
		"Delete behind it": func() { At(v, ahead.lay(v, &next)).Delete("d") },
	} {
		if err := volume.Catch(name, call); !errors.Is(err, api.ErrIO) {
			t.Errorf("P1: %s: %v, want ErrIO", name, err)
		}
	}
}

// turncoat is a device that gives, from some read on, other bytes for a block than were written.
type turncoat struct {
	*api.Disk
	reads, from int
	block       int
	gives       volume.Block
}

func (d *turncoat) Read(i int) ([]byte, error) {
	d.reads++
	if d.reads >= d.from && i == d.block {
		return d.gives[:], nil
	}
	return d.Disk.Read(i)
}

// A leaf is found, and is a node that leads to itself when it is read again.
func TestTurncoat(t *testing.T) {
	n, at := itself()
	twin := &node.Node{Pairs: []node.Pair{{Pair: api.Pair{Key: "k", Value: "\x0a\x15\x0f\x0a\x68\x3d\x06\x03\x18\x08\x7b\x05"}}}}
	d := &turncoat{Disk: api.NewDisk(20), from: math.MaxInt, block: at.Block, gives: n.Block()}
	v := volume.On(d)
	if twin.Lay(v, at.Block) != at {
		t.Fatal("P1: the leaf has another sum: find one that has the same")
	}
	root := (&node.Node{Level: 1, Links: []node.Link{{Place: at}, {Key: "l", Place: at}}}).Lay(v, 3)
	tr := At(v, root)
	d.from = d.reads + 4
	if err := volume.Catch("Delete", func() { tr.Delete("k") }); !errors.Is(err, api.ErrIO) {
		t.Errorf("P1: Delete: %v, want ErrIO", err)
	}
}

// A tree that is higher than any can be is not gone through.
func TestCheckOfTooHigh(t *testing.T) {
	for _, level := range []int{node.Levels, node.Levels + 1, 255} {
		d := &reads{api.NewDisk(20), map[int]int{}}
		v, next := volume.On(d), head.Slots-1
		at := shape{level: level, keys: []string{"", "d"}, below: []shape{leaf("a", "b", "c"), leaf("d", "e", "f")}}.lay(v, &next)
		if err := corrupt(At(v, at)); !errors.Is(err, api.ErrCorrupt) || len(d.of) != 1 {
			t.Errorf("P13: a root of level %d: %v, want ErrCorrupt; %d blocks are read", level, err, len(d.of))
		}
	}
}
