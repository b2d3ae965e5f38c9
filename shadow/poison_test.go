package shadow

import (
	"errors"
	"strings"
	"testing"

	"shadow/api"
	"shadow/code"
	"shadow/node"
	"shadow/volume"
)

// scene is a store with transactions that go on, are over, and have cursors.
type scene struct {
	d       *api.Disk
	x       *DB
	w, r, o *Txn
	c, rc   *Cursor
}

func staged(t *testing.T) *scene {
	d := stored(t, 100, keys(40)...)
	x := open(t, d)
	s := &scene{d: d, x: x, w: begin(t, x, true), r: begin(t, x, false), o: begin(t, x, false)}
	s.c, s.rc = cursor(t, s.w), cursor(t, s.r)
	want(t, "P6: Put", s.w.Put("k020x", "new"), api.OK)
	s.c.Seek("k010")
	s.rc.Seek("k030")
	want(t, "P9: Abort", s.o.Abort(), api.OK)
	return s
}

// reading are the calls that ask the device for something.
func (s *scene) reading() map[string]func() (bool, error) {
	out := map[string]func() (bool, error){
		"a reader's All": func() (bool, error) { l, err := all(s.r, "k000", last); return l != nil, err },
		"a reader's Get": func() (bool, error) { v, there, err := s.r.Get("k005"); return v != "" || there, err },
	}
	for name, call := range calls(s.x, s.w, s.c) {
		switch name {
		case "Put", "Delete", "Get", "All", "First", "Last", "Next", "Prev", "Seek", "Commit":
			out[name] = call
		}
	}
	for name, move := range moves(s.rc) {
		out["a reader's "+name] = func() (bool, error) { p, there, err := move(); return there || p != (api.Pair{}), err }
	}
	return out
}

// poisoned: every call is answered with ErrPoisoned, whatever else is wrong, and does nothing, not even on the device.
func (s *scene) poisoned(t *testing.T, behind string) {
	t.Helper()
	s.d.Off(0)
	before, writes := s.d.Told(), s.d.Writes()
	for _, y := range []*Txn{s.w, s.r, s.o} {
		c := s.c
		if y != s.w {
			c = s.rc
		}
		for name, call := range calls(s.x, y, c) {
			any, err := call()
			if told(err) != api.ErrPoisoned || !errors.Is(err, api.ErrPoisoned) || any {
				t.Errorf("P1: %s behind %s: %v, want ErrPoisoned", name, behind, err)
			}
		}
	}
	if s.d.Told() != before || s.d.Writes() != writes {
		t.Errorf("P1: behind %s the store asks the device", behind)
	}
}

// An error of the device at each of its calls that a call makes is told, with nothing beside it; the store is poisoned then.
func TestPoisoned(t *testing.T) {
	for name := range staged(t).reading() {
		for at := 0; ; at++ {
			s := staged(t)
			s.d.Bad(at, 1)
			before := s.d.Told()
			any, err := s.reading()[name]()
			if s.d.Told() == before {
				want(t, "P1: "+name, err, api.OK)
				if at == 0 {
					t.Errorf("P1: %s does not ask the device", name)
				}
				break
			}
			if strings.HasSuffix(name, "All") {
				any = false // it told pairs ahead of the error
			}
			if told(err) != api.ErrIO || !errors.Is(err, api.ErrIO) || any {
				t.Errorf("P1: %s, an error behind %d calls: %v, want ErrIO", name, at, err)
			}
			s.d.Bad(0, 0)
			s.poisoned(t, name)
		}
	}
}

// All tells no pair beside ErrIO, and ends with it.
func TestAllEndsWithIO(t *testing.T) {
	s := staged(t)
	n := 0
	for p, err := range s.r.All("", last) {
		if n++; n == 5 {
			s.d.Off(0)
		}
		if n == 6 && (told(err) != api.ErrIO || p != (api.Pair{})) || n < 6 && err != nil {
			t.Errorf("P7: the %d-th of All: %v, %v", n, p, err)
		}
	}
	if n != 6 {
		t.Errorf("P7: All goes on to %d behind ErrIO", n)
	}
	s.poisoned(t, "All")
}

// Calls that are refused do not ask the device: the error is the one that is named, and nothing is poisoned.
func TestNamedAheadOfIO(t *testing.T) {
	s := staged(t)
	s.d.Off(0)
	long := strings.Repeat("x", 13)
	_, err := s.x.Begin(true)
	want(t, "P5: Begin", err, api.ErrBusy)
	want(t, "P6: Put", s.w.Put("", long), api.ErrKey)
	want(t, "P6: Put", s.w.Put("k001", long), api.ErrValue)
	want(t, "P6: Put", s.r.Put("k001", ""), api.ErrRead)
	want(t, "P6: Delete", s.w.Delete(""), api.ErrKey)
	want(t, "P6: Delete", s.r.Delete("k001"), api.ErrRead)
	_, _, err = s.r.Get("")
	want(t, "P6: Get", err, api.ErrKey)
	for name, call := range calls(s.x, s.o, s.c) {
		switch {
		case strings.HasPrefix(name, "Begin"), name == "First", name == "Last", name == "Next", name == "Prev", name == "Seek":
		default:
			_, err := call()
			want(t, "P6 to P9: "+name+" of one that is over", err, api.ErrDone)
		}
	}
	c := cursor(t, s.r)
	for _, name := range []string{"Next", "Prev"} {
		_, _, err := moves(c)[name]()
		want(t, "P8: "+name, err, api.ErrPlace)
	}
	y := begin(t, s.x, false)
	want(t, "P9: Commit of one that reads", y.Commit(), api.OK)
	want(t, "P9: Abort", s.r.Abort(), api.OK)
	want(t, "P9: Abort", s.w.Abort(), api.OK)
	if s.d.Told() != 0 {
		t.Errorf("P1: the device was asked %d times", s.d.Told())
	}
	s.d.Off(1 << 30)
	if got := sees(t, begin(t, s.x, false)); !strings.HasPrefix(got, "k000=vk000 k001=vk001 ") {
		t.Errorf("P1: the store was poisoned: %s", got)
	}
}

// Nothing but Commit writes, and that only for one that writes.
func TestWritesNothing(t *testing.T) {
	s := staged(t)
	before, writes := s.d.Bytes(), s.d.Writes()
	for name, call := range calls(s.x, s.w, s.c) {
		if name != "Commit" && name != "Abort" {
			call()
		}
	}
	for name, call := range calls(s.x, s.r, s.rc) {
		if name != "Commit" && name != "Abort" {
			call()
		}
	}
	want(t, "P9: Commit of one that reads", s.r.Commit(), api.OK)
	want(t, "P9: Abort", s.w.Abort(), api.OK)
	want(t, "P9: Commit of one that changed nothing", begin(t, s.x, true).Commit(), api.OK)
	if s.d.Bytes() != before || s.d.Writes() != writes || s.d.Pending() != 0 {
		t.Error("P12: something was written")
	}
}

// Another store may be opened on the device of one that is poisoned; it is not poisoned.
func TestOpenBehindPoison(t *testing.T) {
	s := staged(t)
	s.d.Bad(0, 1)
	_, _, err := s.r.Get("k005")
	want(t, "P1: Get", err, api.ErrIO)
	x := open(t, s.d)
	if got := sees(t, begin(t, x, true)); !strings.HasPrefix(got, "k000=vk000 ") {
		t.Errorf("P9: another store sees %s", got)
	}
	s.poisoned(t, "Get")
}

// A device that gives something else than was written, tells an error of its own, or breaks down.
func TestPoisonedByStrangeDevices(t *testing.T) {
	for name, spoil := range map[string]func(s *strange){
		"too little":   func(s *strange) { s.cut = 20 },
		"its error":    func(s *strange) { s.told = &api.Fault{Op: "x", E: api.ErrDone} },
		"a break-down": func(s *strange) { s.panics = true },
		"other bytes":  func(s *strange) { s.Disk = api.NewDisk(100) },
	} {
		d := &strange{Disk: stored(t, 100, keys(40)...)}
		x := open(t, d)
		y := begin(t, x, false)
		c := cursor(t, y)
		if got := sees(t, y); !strings.HasPrefix(got, "k000=vk000 ") {
			t.Errorf("P2: on a device that uses its memory again: %s", got)
		}
		spoil(d)
		v, there, err := y.Get("k005")
		if told(err) != api.ErrIO || v != "" || there || errors.Is(err, api.ErrDone) {
			t.Errorf("P1: Get, %s: %q, %v, %v", name, v, there, err)
		}
		_, _, err = c.First()
		want(t, "P1: First, "+name, err, api.ErrPoisoned)
	}
}

// liar is a device that gives, from some time on, other bytes for a block than were written.
type liar struct {
	*api.Disk
	block int // 0: it does not lie yet
	gives volume.Block
}

func (d *liar) Read(i int) ([]byte, error) {
	if i == d.block && i > 0 {
		return d.gives[:], nil
	}
	return d.Disk.Read(i)
}

// A device gives a node that leads to itself, and has the sum of the one that was written: every call ends.
func TestEndsOnALiar(t *testing.T) {
	for _, name := range []string{"Get", "All", "First", "Last", "Seek", "Put", "Delete"} {
		d := &liar{Disk: formatted(t, 20, 1)}
		x := open(t, d)
		commit(t, x, "k=\x0a\x15\x0f\x0a\x68\x3d\x06\x03\x18\x08\x7b\x05")
		at := x.committed.Root
		n := &node.Node{Level: 1, Links: []node.Link{{Place: at}, {Key: " Cugn!Rb", Place: at}, {Key: "\x3d\x4d\x2c\x1e\x63\xab\x6d\xa5", Place: at}}}
		d.gives = n.Block()
		if code.Sum(d.gives[:]) != at.Sum {
			t.Fatal("P1: the node has another sum: find one that has the same")
		}
		y := begin(t, x, true)
		c := cursor(t, y)
		d.block = at.Block
		any, err := calls(x, y, c)[name]()
		want(t, "P1: "+name+" on a device that lies", err, api.ErrIO)
		if any {
			t.Errorf("P1: %s on a device that lies tells something", name)
		}
		poisoned(t, x, y, c)
	}
}
