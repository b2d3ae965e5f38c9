package shadow

import (
	"errors"
	"math"
	"strings"
	"sync"
	"testing"

	"shadow/api"
)

// told is the number of an error; of one that is, and wraps, none -1.
func told(err error) api.Errno {
	var e api.Errno
	if err == nil {
		return api.OK
	}
	if !errors.As(err, &e) {
		return -1
	}
	return e
}

func want(t *testing.T, what string, err error, e api.Errno) {
	t.Helper()
	if told(err) != e || e != api.OK && !errors.Is(err, e) {
		t.Errorf("%s: %v, want %v", what, err, e)
	}
}

// formatted is a disk that was formatted so many times: that turns its heads round.
func formatted(t *testing.T, blocks int, times int) *api.Disk {
	t.Helper()
	d := api.NewDisk(blocks)
	for range times {
		want(t, "P3: Format", Format(d), api.OK)
	}
	return d
}

// opened is the number of the head that Open finds, of which it makes a store.
func opened(t *testing.T, d api.Device) uint64 {
	t.Helper()
	x, err := Open(d)
	if err != nil || x == nil {
		t.Fatalf("P4: Open: %v", err)
	}
	return x.committed.Number
}

// starts are disks as a call may find them, each made anew.
func starts(t *testing.T) map[string]func() *api.Disk {
	return map[string]func() *api.Disk{
		"noughts":   func() *api.Disk { return api.NewDisk(20) },
		"text":      func() *api.Disk { return api.Laid(20, strings.Repeat("shadow01", 20*16)) },
		"once":      func() *api.Disk { return formatted(t, 20, 1) },
		"twice":     func() *api.Disk { return formatted(t, 20, 2) },
		"one head":  func() *api.Disk { return formatted(t, 20, 1).Turned(0) },
		"the other": func() *api.Disk { return formatted(t, 20, 1).Turned(api.Block * 8) },
		"a tree":    func() *api.Disk { return stored(t, 20, keys(12)...) },
		"cut off": func() *api.Disk {
			d := formatted(t, 20, 1)
			d.Off(4)
			Format(d)
			return d.After(nil)
		},
		"failed, not flushed": func() *api.Disk {
			d := formatted(t, 20, 1)
			d.Bad(3, 1)
			want(t, "P3: Format", Format(d), api.ErrIO)
			return d
		},
		"failed at its end": func() *api.Disk {
			d := formatted(t, 20, 1)
			d.Bad(5, 1)
			want(t, "P3: Format", Format(d), api.ErrIO)
			return d
		},
	}
}

// choices calls f with each choice of the sectors of n writes; of more than three, which are too many to choose from, it takes the first ones.
func choices(n int, f func(keep []int)) {
	n = min(n, 3)
	for c := 0; c < 1<<(4*n); c++ {
		keep := make([]int, n)
		for j := range keep {
			keep[j] = c >> (4 * j) & 15
		}
		f(keep)
	}
}

func TestSize(t *testing.T) {
	for _, n := range []int{0, 1, 7, 401, 999} {
		d := api.NewDisk(n)
		want(t, "P3: Format", Format(d), api.ErrSize)
		x, err := Open(d)
		want(t, "P4: Open", err, api.ErrSize)
		if x != nil || d.Writes() != 0 {
			t.Errorf("P1: %d blocks: a store: %v; writes: %d", n, x != nil, d.Writes())
		}
	}
	for _, n := range []int{8, 9, 399, 400} {
		opened(t, formatted(t, n, 1))
	}
}

// ErrSize is named first, whatever else is wrong.
func TestSizeAheadOfAll(t *testing.T) {
	for _, n := range []int{7, 401} {
		d := api.NewDisk(n)
		d.Off(0)
		want(t, "P1, P3: Format", Format(d), api.ErrSize)
		_, err := Open(d)
		want(t, "P1, P4: Open", err, api.ErrSize)
	}
	var none *api.Disk
	for _, d := range []api.Device{nil, none} {
		want(t, "P1, P3: Format of no device", Format(d), api.ErrSize)
		x, err := Open(d)
		want(t, "P1, P4: Open of no device", err, api.ErrSize)
		if x != nil {
			t.Error("P1: a store on no device")
		}
	}
}

func TestNothingThere(t *testing.T) {
	for _, n := range []int{8, 20, 400} {
		for _, s := range []string{"", "a", strings.Repeat("\xff", n*api.Block), strings.Repeat("shadow01", n*16)} {
			d := api.Laid(n, s)
			before := d.Bytes()
			x, err := Open(d)
			want(t, "P4: Open of no store", err, api.ErrCorrupt)
			if x != nil || d.Bytes() != before || d.Writes() != 0 {
				t.Error("P1, P4: Open of no store made something")
			}
		}
	}
}

// On a device of noughts ErrCorrupt goes ahead of an error that is told behind the reads.
func TestCorruptAheadOfIO(t *testing.T) {
	for at := 0; at < 6; at++ {
		d := api.NewDisk(20)
		d.Bad(at, 100)
		_, err := Open(d)
		if e := told(err); e != api.ErrCorrupt && (e != api.ErrIO || at >= 2) {
			t.Errorf("P1, P4: Open of noughts, errors behind %d calls: %v", at, err)
		}
	}
}

// Whatever lies on a device, Format lays a store on it, and it is sure.
func TestFormatIsSure(t *testing.T) {
	for name, start := range starts(t) {
		d := start()
		want(t, "P3: Format: "+name, Format(d), api.OK)
		if d.Pending() != 0 {
			t.Errorf("P3: Format: %s: %d writes are not sure", name, d.Pending())
		}
		after := d.After(nil)
		if a, b := opened(t, d), opened(t, after); a != b {
			t.Errorf("P3: %s: the head %d, behind a failure of power %d", name, a, b)
		}
	}
}

// Behind Format no head is left of what was there: neither of them, if the other is undone.
func TestFormatLeavesNothing(t *testing.T) {
	for name, start := range starts(t) {
		d := start()
		old, before := uint64(0), start()
		if x, err := Open(before); err == nil {
			old = x.committed.Number
		}
		want(t, "P3: Format: "+name, Format(d), api.OK)
		for _, e := range []*api.Disk{d, d.Turned(0), d.Turned(api.Block * 8)} {
			if n := opened(t, e); n <= old {
				t.Errorf("P3: %s: behind Format the head %d is there still; it was %d", name, n, old)
			}
		}
	}
}

// A Format that is cut off leaves what was there, or an empty store, or nothing: never what was there ahead of it. Numbers of heads stand for contents.
func TestFormatCut(t *testing.T) {
	for name, start := range starts(t) {
		ended := false
		for at := 0; at < 20 && !ended; at++ {
			d := start()
			before := d.Told()
			may := func(n uint64) bool { return true }
			if x, err := Open(start().After(nil)); err == nil {
				may = func(n uint64) bool { return n >= x.committed.Number }
			}
			d.Off(at)
			err := Format(d)
			if e := told(err); e != api.OK && e != api.ErrIO || (e == api.OK) != (d.Told() == before) {
				t.Fatalf("P3: Format: %s, off behind %d calls: %v", name, at, err)
			}
			ended = err == nil
			choices(d.Pending(), func(keep []int) {
				x, wrong := Open(d.After(keep))
				switch {
				case wrong == nil && !may(x.committed.Number):
					t.Errorf("P3: Format: %s, off behind %d calls, sectors %v: the head %d", name, at, keep, x.committed.Number)
				case wrong != nil && (told(wrong) != api.ErrCorrupt || ended || x != nil):
					t.Errorf("P3: Format: %s, off behind %d calls, sectors %v: %v", name, at, keep, wrong)
				}
			})
		}
		if !ended {
			t.Errorf("P3: Format: %s: it needs more than 20 calls of the device", name)
		}
	}
}

// Where a store was, one is found behind a Format that was cut off: its heads are never both undone.
func TestFormatCutKeepsAStore(t *testing.T) {
	for times := 1; times <= 2; times++ {
		for at := 0; at < 8; at++ {
			d := formatted(t, 20, times)
			d.Off(at)
			Format(d)
			choices(d.Pending(), func(keep []int) { opened(t, d.After(keep)) })
		}
	}
}

// What Open found is sure: it stays, whatever of the writes ahead of it was not flushed.
func TestOpenIsSure(t *testing.T) {
	for name, start := range starts(t) {
		d := start()
		pending := d.Pending()
		x, err := Open(d)
		if err != nil {
			want(t, "P4: Open: "+name, err, api.ErrCorrupt)
			continue
		}
		choices(pending, func(keep []int) {
			if n := opened(t, d.After(keep)); n != x.committed.Number {
				t.Errorf("P4: %s: Open found %d, behind a failure of power %d", name, x.committed.Number, n)
			}
		})
		if d.Pending() != 0 {
			t.Errorf("P4: %s: %d writes are not sure", name, d.Pending())
		}
	}
}

// An Open that is cut off, or fails, leaves what may be there as it was.
func TestOpenCut(t *testing.T) {
	for name, start := range starts(t) {
		for at := 0; at < 4; at++ {
			d := start()
			whole, writes, before := d.After([]int{15, 15, 15, 15}).Bytes(), d.Writes(), d.Told()
			d.Off(at)
			x, err := Open(d)
			if e := told(err); (x == nil) != (err != nil) || e != api.OK && e != api.ErrIO && e != api.ErrCorrupt || e == api.OK && d.Told() > before {
				t.Errorf("P4: Open: %s, off behind %d calls: %v", name, at, err)
			}
			if d.Writes() != writes || d.After([]int{15, 15, 15, 15}).Bytes() != whole {
				t.Errorf("P4: Open: %s, off behind %d calls: it changed the device", name, at)
			}
			first, wrong := Open(start())
			then, later := Open(d.After([]int{15, 15, 15, 15}))
			if told(wrong) != told(later) || wrong == nil && first.committed != then.committed {
				t.Errorf("P4: Open: %s, behind one that was cut off: %v, else %v", name, later, wrong)
			}
		}
	}
}

// Each call of the device may tell an error: it is told on as ErrIO, and the next call is answered as if there had been none.
func TestDeviceTells(t *testing.T) {
	for at := 0; at < 20; at++ {
		for k := 1; k <= 3; k++ {
			d := formatted(t, 20, 1)
			n := opened(t, d)
			d.Bad(at, k)
			before := d.Told()
			x, err := Open(d)
			if e := told(err); (e == api.ErrIO) != (d.Told() > before) || (x == nil) != (err != nil) || err != nil && e != api.ErrIO {
				t.Errorf("P1, P4: Open, %d errors behind %d calls: %v", k, at, err)
			}
			d.Bad(0, 0)
			if m := opened(t, d); m != n {
				t.Errorf("P4: behind an Open that failed: the head %d, not %d", m, n)
			}
			d.Bad(at, k)
			before = d.Told()
			err = Format(d)
			if e := told(err); e != api.OK && e != api.ErrIO || (e == api.ErrIO) != (d.Told() > before) {
				t.Errorf("P1, P3: Format, %d errors behind %d calls: %v", k, at, err)
			}
			d.Bad(0, 0)
			want(t, "P3: Format behind one that failed", Format(d), api.OK)
		}
	}
}

// A Format behind a Format that failed, and one more, cut off: many writes are not flushed then.
func TestFormatsThatFail(t *testing.T) {
	for times := 1; times <= 2; times++ {
		for at := 0; at < 8; at++ {
			d := formatted(t, 20, times)
			n := opened(t, d)
			for range 2 {
				d.Bad(3, 1)
				want(t, "P3: Format", Format(d), api.ErrIO)
			}
			d.Off(at)
			err := Format(d)
			choices(d.Pending(), func(keep []int) {
				if m := opened(t, d.After(keep)); m < n || err == nil && m == n {
					t.Errorf("P3: Format (%v), off behind %d calls, sectors %v: the head %d; it was %d", err, at, keep, m, n)
				}
			})
		}
	}
}

// strange is a device that gives too little, tells errors of its own, spoils what it handed out and was handed, or breaks down.
type strange struct {
	*api.Disk
	sizes  []int // what it says, in turns, of how many blocks it has
	cut    int   // how many bytes a read gives (0: all)
	told   error
	panics bool
	buffer [api.Block]byte
}

func (s *strange) Blocks() int {
	if len(s.sizes) == 0 {
		return s.Disk.Blocks()
	}
	n := s.sizes[0]
	s.sizes = append(s.sizes[1:], n)
	return n
}

func (s *strange) Read(i int) ([]byte, error) {
	if s.panics {
		panic("gone")
	}
	b, err := s.Disk.Read(i)
	copy(s.buffer[:], b) // one and the same memory for all reads
	if s.told != nil {
		err = s.told
	}
	if s.cut > 0 {
		return s.buffer[:s.cut], err
	}
	return s.buffer[:], err
}

func (s *strange) Write(i int, b []byte) error {
	err := s.Disk.Write(i, b)
	clear(b)
	return err
}

func TestStrangeDevices(t *testing.T) {
	good := &strange{Disk: api.NewDisk(20)}
	want(t, "P2, P3: Format", Format(good), api.OK)
	if good.Bytes() != formatted(t, 20, 1).Bytes() {
		t.Error("P2: a device that uses its memory again is laid otherwise")
	}
	opened(t, good)
	for _, e := range []error{errors.New("dust"), api.OK, api.ErrCorrupt, api.ErrSize, &api.Fault{Op: "Read", E: api.ErrKey}} {
		d := &strange{Disk: formatted(t, 20, 1), told: e}
		x, err := Open(d)
		want(t, "P1, P4: Open", err, api.ErrIO)
		if x != nil || errors.Is(err, api.OK) {
			t.Errorf("P1: Open: %v, %v", x, err)
		}
		want(t, "P1, P3: Format", Format(d), api.ErrIO)
	}
	d := &strange{Disk: formatted(t, 20, 1), panics: true}
	_, err := Open(d)
	want(t, "P1: Open of a device that breaks down", err, api.ErrIO)
	want(t, "P1: Format of a device that breaks down", Format(d), api.ErrIO)
	for cut := 1; cut < api.Sector; cut++ {
		_, err := Open(&strange{Disk: formatted(t, 20, 1), cut: cut})
		want(t, "P1, P4: Open of a device that gives too little", err, api.ErrCorrupt)
	}
	for _, n := range []int{math.MinInt, -1, math.MaxInt} {
		d := &strange{Disk: formatted(t, 20, 1), sizes: []int{n}}
		_, err := Open(d)
		want(t, "P4: Open", err, api.ErrSize)
		want(t, "P3: Format", Format(d), api.ErrSize)
	}
	opened(t, &strange{Disk: formatted(t, 20, 1), sizes: []int{20, 0, -1}})
}

// What is answered hangs on the device alone: twice the same calls, twice the same bytes and answers, many at a time.
func TestAlike(t *testing.T) {
	alone := formatted(t, 20, 3)
	n := opened(t, alone)
	disks := make([]*api.Disk, 16)
	numbers := make([]uint64, len(disks))
	var all sync.WaitGroup
	for i := range disks {
		all.Go(func() {
			d := api.NewDisk(20)
			for range 3 {
				if Format(d) != nil {
					return
				}
			}
			if x, err := Open(d); err == nil {
				disks[i], numbers[i] = d, x.committed.Number
			}
		})
	}
	all.Wait()
	for i, d := range disks {
		if d == nil || d.Bytes() != alone.Bytes() || numbers[i] != n {
			t.Fatalf("P2: of the same calls the %d-th are answered otherwise", i)
		}
	}
}

// Each Open makes a store of its own, that keeps its device.
func TestStoresApart(t *testing.T) {
	d, e := formatted(t, 20, 1), formatted(t, 20, 1)
	x, err := Open(d)
	want(t, "P4: Open", err, api.OK)
	y, err := Open(e)
	want(t, "P4: Open", err, api.OK)
	if x == y || x.on.Device != api.Device(d) || y.on.Device != api.Device(e) {
		t.Error("P2: two stores share what is theirs")
	}
}
