package shadow

import (
	"fmt"
	"maps"
	"math/rand"
	"slices"
	"strings"
	"testing"

	"shadow/api"
	"shadow/code"
	"shadow/head"
	"shadow/node"
)

// The bits of a block.
const bits = api.Block * 8

// asked is a device that keeps which blocks were read.
type asked struct {
	*api.Disk
	blocks map[int]int
}

func (d *asked) Read(i int) ([]byte, error) {
	d.blocks[i]++
	return d.Disk.Read(i)
}

// reach are the blocks that Open reads on a disk, or would read, if one of the heads were undone: no bit of another can change what it answers, where one is turned.
func reach(d *api.Disk) []int {
	a := &asked{d, map[int]int{}}
	Open(a)
	for slot := range head.Slots {
		Open(&asked{d.Turned(slot * bits), a.blocks})
	}
	return slices.Sorted(maps.Keys(a.blocks))
}

// past is of disks, and of all that was there at some time as a whole since the last Format, or was to be.
type past struct {
	*testing.T
	was   []string
	step  int            // each so many-th bit is turned
	seen  map[string]int // what Open reads on the disks that were looked at, of which many are alike
	found map[string]int
}

func newPast(t *testing.T, step int) *past {
	return &past{t, []string{""}, step, map[string]int{}, map[string]int{}}
}

// look turns bits of a disk, each by itself: Open finds nothing, or what was there at some time.
func (p *past) look(what string, d *api.Disk) {
	p.Helper()
	blocks := reach(d)
	s, all := "", d.Bytes()
	for _, i := range blocks {
		s += fmt.Sprint(i) + all[i*api.Block:(i+1)*api.Block]
	}
	if p.seen[s]++; p.seen[s] > 1 {
		return
	}
	for _, i := range blocks {
		for bit := len(p.seen) % p.step; bit < bits; bit += p.step {
			p.turn(what, d, i*bits+bit)
		}
	}
	either(p.T, what, d, p.was)
}

// turn turns a bit.
func (p *past) turn(what string, d *api.Disk, bit int) {
	p.Helper()
	x, err := Open(d.Turned(bit))
	if err != nil {
		p.found["nothing"]++
		if told(err) != api.ErrCorrupt || x != nil {
			p.Fatalf("P13: %s, bit %d turned: %v, want ErrCorrupt", what, bit, err)
		}
		return
	}
	got := content(p.T, x)
	p.found[got]++
	if !slices.Contains(p.was, got) {
		p.Fatalf("P13: %s, bit %d turned: found %q, where only %q were", what, bit, got, p.was)
	}
}

// either undoes one head, and the other: what is left leads to a whole tree, of which nothing was written over. That must not hang on sums: what was written over it may have the same.
func either(t *testing.T, what string, d *api.Disk, was []string) {
	t.Helper()
	for slot := range head.Slots {
		x, err := Open(d.Turned(slot * bits))
		if err != nil {
			t.Fatalf("P13: %s, the head in block %d undone: the other leads to no whole tree: %v", what, slot, err)
		}
		if got := content(t, x); !slices.Contains(was, got) {
			t.Fatalf("P13: %s, the head in block %d undone: found %q, where only %q were", what, slot, got, was)
		}
	}
}

// few are stories on small disks, of which each bit is turned.
func few() []string {
	return []string{"another value", "the last key", "the same again", "a second level", "one level again", "in blocks used again"}
}

// Behind a Format, and behind Commits, each bit of the whole disk is turned.
func TestTurnedBehindCommits(t *testing.T) {
	t.Parallel()
	for _, name := range few() {
		s := stories()[name]
		p := newPast(t, 1)
		d := formatted(t, s.blocks, 1)
		x := open(t, d)
		p.look(name+", formatted", d)
		for _, changes := range append(s.ahead, s.last) {
			p.was = append(p.was, commit(t, x, changes...))
			p.look(name, d)
		}
		for bit := range s.blocks * bits {
			p.turn(name, d, bit)
		}
		for _, w := range append(p.was[len(p.was)-2:], "nothing") {
			if p.found[w] == 0 {
				t.Errorf("P13: %s: no bit turned leaves %q", name, w)
			}
		}
	}
}

// tell tells a story to its end but for the last Commit, with all that was there.
func (p *past) tell(s story) (*api.Disk, *Txn) {
	d := formatted(p.T, s.blocks, 1)
	x := open(p.T, d)
	p.was = []string{""}
	for _, changes := range s.ahead {
		p.was = append(p.was, commit(p.T, x, changes...))
	}
	y := begin(p.T, x, true)
	change(p.T, y, s.last...)
	p.was = append(p.was, sees(p.T, y))
	return d, y
}

// Behind a Commit that was cut off at each call, or to which the device told an error, with each choice of what survives; and behind Opens on that.
func TestTurnedBehindCommitsCut(t *testing.T) {
	t.Parallel()
	for name, s := range stories() {
		p := newPast(t, 11)
		if slices.Contains(few(), name) {
			p.step = 1
		}
		r := rand.New(rand.NewSource(1))
		for at, done := 0, false; !done; at++ {
			for _, cut := range []bool{true, false} {
				d, y := p.tell(s)
				d.Bad(at, 1)
				if cut {
					d.Off(at)
				}
				done = y.Commit() == nil
				what := fmt.Sprintf("%s, the Commit fails behind %d calls", name, at)
				survivors(d.Pending(), 3, r, func(keep []int) { p.look(what, d.After(keep)) })
				if !cut && !done {
					open(t, d)
					p.look(what+", and Open", d.After(nil))
				}
			}
		}
	}
}

// Behind a Format likewise, that comes behind Commits, of which the last may have failed.
func TestTurnedBehindFormatsCut(t *testing.T) {
	t.Parallel()
	for _, name := range few() {
		p := newPast(t, 1)
		r := rand.New(rand.NewSource(2))
		for failed := -1; failed < 12; failed++ {
			for at, done := 0, false; !done; at++ {
				for _, cut := range []bool{true, false} {
					d, y := p.tell(stories()[name])
					if failed >= 0 {
						d.Bad(failed, 1)
					}
					y.Commit()
					d.Bad(at, 1)
					if cut {
						d.Bad(0, 0)
						d.Off(at)
					}
					done = Format(d) == nil
					what := fmt.Sprintf("%s, the Commit fails behind %d calls, Format behind %d", name, failed, at)
					survivors(d.Pending(), 2, r, func(keep []int) { p.look(what, d.After(keep)) })
				}
			}
		}
	}
}

// A bit that is turned while a store is open, which goes on: its Commit is cut off at each call.
func TestTurnedUnderAStore(t *testing.T) {
	t.Parallel()
	for _, name := range append(few(), "one of many") {
		s := stories()[name]
		r := rand.New(rand.NewSource(3))
		for at, done := 0, false; !done; at++ {
			for i := range 40 {
				p := newPast(t, 1)
				d := &held{formatted(t, s.blocks, 1)}
				x := open(t, d)
				for _, changes := range s.ahead {
					p.was = append(p.was, commit(t, x, changes...))
				}
				bit := i * bits
				if blocks := reach(d.Disk); i >= head.Slots {
					bit = blocks[r.Intn(len(blocks))]*bits + r.Intn(bits)
				}
				y := begin(t, x, true)
				change(t, y, s.last...)
				p.was = append(p.was, sees(t, y))
				d.Disk = d.Turned(bit)
				d.Off(at)
				err := y.Commit()
				if told(err) != api.OK && told(err) != api.ErrIO {
					t.Fatalf("P1, P9: Commit, bit %d turned: %v", bit, err)
				}
				done = done || err == nil
				p.after(fmt.Sprintf("%s, bit %d turned, Commit fails behind %d calls", name, bit, at), d.Disk, r)
			}
		}
	}
}

// after: where a bit was turned already, with some choices of what survives, none is turned any more.
func (p *past) after(what string, d *api.Disk, r *rand.Rand) {
	p.Helper()
	survivors(d.Pending(), 1, r, func(keep []int) {
		x, err := Open(d.After(keep))
		if err != nil {
			want(p.T, "P13: "+what, err, api.ErrCorrupt)
		} else if got := content(p.T, x); !slices.Contains(p.was, got) {
			p.Fatalf("P13: %s: found %q, where only %q were", what, got, p.was)
		}
	})
}

// turn turns one bit, in a head or in another of the first blocks, under the store that is open.
func (m *maybe) turn() {
	bit := m.r.Intn(head.Slots)*bits + m.r.Intn(api.Sector*8)
	if m.r.Intn(2) == 0 {
		bit = m.r.Intn(m.d.Blocks() / 2 * bits)
	}
	m.d.Disk = m.d.Turned(bit)
	m.turned, m.sound = true, false
}

// Commits, Opens, Formats and failures, one behind the other, and one bit that is turned between them. Once Open found something behind that, all is as ever.
func TestTurnedAtSomeTime(t *testing.T) {
	t.Parallel()
	for seed := range int64(3000) {
		m := &maybe{T: t, r: rand.New(rand.NewSource(seed)), d: &held{formatted(t, 10+int(seed%20), 1)}, may: []string{""}, was: []string{""}, sound: true}
		m.goOn(m.r.Intn(30))
		if m.d.Pending() > 0 {
			m.cut()
		}
		m.turn()
		m.goOn(20)
	}
}

// Two values: in a leaf that has the key key00001 with one of them first, and three more keys, the sum is the same with both.
const (
	twin  = "\x85\x0c\x0c\x1a\x16\x48\x96\xf2\x60\xc9\x0e\xb2"
	other = "\x84\x04\x12\x0e\x20\x36\x8c\x70\x56\x2a\x35\xa3"
)

// sevenKeys are changes that put seven keys, in two leaves.
func sevenKeys(first, last string) []string {
	ks := strings.Split("key00002 key00003 key00004 key00005 key00006", " ")
	return slices.Concat([]string{"key00001=" + first}, puts("000000000000", ks...), []string{"key00007=" + last})
}

// If sums or leaves are ever made otherwise, there are other twins, and both TestTwins must be given those.
func TestTwinsHaveOneSum(t *testing.T) {
	sum := func(value string) uint64 {
		var n node.Node
		for i, v := range []string{value, "000000000000", "000000000000", "000000000000"} {
			n.Pairs = append(n.Pairs, node.Pair{Pair: api.Pair{Key: fmt.Sprintf("key%05d", i+1), Value: v}})
		}
		b := n.Block()
		return code.Sum(b[:])
	}
	if sum(twin) != sum(other) {
		t.Error("P13: the twins are none: find others")
	}
}

// A leaf is written over by another that has the same sum, in a Commit that is cut off: if the newer head is undone then, the older one must not lead to it.
func TestTwins(t *testing.T) {
	t.Parallel()
	s := story{40, [][]string{sevenKeys(twin, "000000000000"), {"key00001=000000000000"}}, []string{"key00001=" + other, "key00007=111111111111"}}
	p := newPast(t, 1)
	r := rand.New(rand.NewSource(4))
	for at, done := 0, false; !done; at++ {
		d, y := p.tell(s)
		d.Off(at)
		done = y.Commit() == nil
		survivors(d.Pending(), 3, r, func(keep []int) { p.look(fmt.Sprintf("the Commit is cut off behind %d calls", at), d.After(keep)) })
	}
}
