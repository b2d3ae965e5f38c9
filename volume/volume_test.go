package volume

import (
	"bytes"
	"errors"
	"math"
	"strings"
	"testing"

	"shadow/api"
)

// odd is a device that answers what a test wants, or breaks down.
type odd struct {
	blocks int
	given  []byte
	told   error
	panics any
	got    [][]byte // what was written, as it was handed in
}

func (o *odd) answer() error {
	if o.panics != nil {
		panic(o.panics)
	}
	return o.told
}

func (o *odd) Blocks() int {
	o.answer()
	return o.blocks
}

func (o *odd) Read(i int) ([]byte, error) { return o.given, o.answer() }

func (o *odd) Write(i int, b []byte) error {
	o.got = append(o.got, b)
	return o.answer()
}

func (o *odd) Flush() error { return o.answer() }

// broken is an error whose words are not to be had.
type broken struct{ words string }

func (b *broken) Error() string { return b.words }

// onlyIO: is it ErrIO, and no other number?
func onlyIO(err error) bool {
	for e := api.OK; e <= api.ErrPlace; e++ {
		if errors.Is(err, e) != (e == api.ErrIO) {
			return false
		}
	}
	var e api.Errno
	return errors.As(err, &e) && e == api.ErrIO
}

func TestSizes(t *testing.T) {
	fair := map[int]bool{api.MinBlocks: true, 9: true, 100: true, 399: true, api.MaxBlocks: true}
	for _, n := range []int{math.MinInt, -8, -1, 0, 1, 7, 8, 9, 100, 399, 400, 401, 999, math.MaxInt} {
		var v *Volume
		err := Catch("size", func() { v = On(&odd{blocks: n}) })
		if fair[n] && (err != nil || v == nil || v.Blocks() != n) {
			t.Errorf("P3: %d blocks: %v", n, err)
		}
		if !fair[n] && (!errors.Is(err, api.ErrSize) || v != nil) {
			t.Errorf("P3: %d blocks: %v, want ErrSize", n, err)
		}
	}
}

func TestNoDevice(t *testing.T) {
	var disk *api.Disk
	for _, d := range []api.Device{nil, disk, &odd{blocks: 20, panics: "gone"}} {
		if err := Catch("size", func() { On(d) }); !errors.Is(err, api.ErrSize) {
			t.Errorf("P1: no device: %v, want ErrSize", err)
		}
	}
}

// A device that tells another number of blocks later has those it told first.
func TestSizeStays(t *testing.T) {
	o := &odd{blocks: 20}
	v := On(o)
	for _, n := range []int{0, 19, 21, -1} {
		o.blocks = n
		if v.Blocks() != 20 {
			t.Errorf("P2: of 20 blocks there are %d", v.Blocks())
		}
	}
}

func TestSpoilt(t *testing.T) {
	err := Catch("Get", func() { On(&odd{blocks: 20}).Spoilt(3) })
	if !onlyIO(err) || !strings.HasPrefix(err.Error(), "Get: read of block 3: ") {
		t.Errorf("P1: %v, want ErrIO", err)
	}
}

func TestLoad(t *testing.T) {
	long := bytes.Repeat([]byte{7}, api.Block+5)
	for _, n := range []int{0, 1, api.Block - 1, api.Block, api.Block + 5} {
		o := &odd{blocks: 20, given: bytes.Clone(long[:n])}
		b := On(o).Load(3)
		clear(o.given) // the device goes on using what it gave
		var want Block
		copy(want[:], long[:n])
		if b != want {
			t.Errorf("P1, P2: a read that gives %d bytes: %v", n, b)
		}
	}
	if b := On(&odd{blocks: 20}).Load(3); b != (Block{}) {
		t.Errorf("P1: a read that gives nil: %v", b)
	}
}

func TestSave(t *testing.T) {
	o := &odd{blocks: 20}
	v := On(o)
	b := Block{1, 2, 3}
	v.Save(3, b)
	if len(o.got) != 1 || !bytes.Equal(o.got[0], b[:]) {
		t.Fatalf("written: %v", o.got)
	}
	o.got[0][0] = 9 // the device goes on using what it was given
	if b != (Block{1, 2, 3}) {
		t.Errorf("P2: the device changed what is the program's: %v", b)
	}
	v.Save(3, b)
	if o.got[0][0] != 9 {
		t.Error("P2: two writes share memory")
	}
}

func TestTold(t *testing.T) {
	calls := map[string]func(v *Volume){
		"read of block 3":  func(v *Volume) { v.Load(3) },
		"write of block 3": func(v *Volume) { v.Save(3, Block{}) },
		"flush":            func(v *Volume) { v.Settle() },
	}
	var none *broken
	errs := []error{errors.New("dust"), api.OK, api.ErrIO, api.ErrKey, api.ErrCorrupt, api.Errno(-5), &api.Fault{Op: "x", E: api.ErrPoisoned}, errors.Join(api.ErrSize, api.ErrBusy), none}
	for name, call := range calls {
		for _, told := range errs {
			v := On(&odd{blocks: 20, told: told})
			if err := Catch("Call", func() { call(v) }); !onlyIO(err) {
				t.Errorf("P1: %s tells %T: %v, want ErrIO alone", name, told, err)
			}
		}
		o := &odd{blocks: 20, told: errors.New("dust")}
		v := On(o)
		if err := Catch("Call", func() { call(v) }); err == nil || err.Error() != "Call: "+name+": dust" {
			t.Errorf("the words of %s: %v", name, err)
		}
		for _, panics := range []any{"gone", 5, api.ErrKey, &api.Fault{}, errors.New("dust")} {
			o.panics = panics
			if err := Catch("Call", func() { call(v) }); !onlyIO(err) {
				t.Errorf("P1: %s panics with %T: %v, want ErrIO", name, panics, err)
			}
		}
	}
}

func TestCatch(t *testing.T) {
	if err := Catch("Call", func() {}); err != nil {
		t.Errorf("nothing was thrown: %v", err)
	}
	for e := api.ErrKey; e <= api.ErrPlace; e++ {
		done := false
		err := Catch("Call", func() {
			Throw(e)
			done = true
		})
		var f *api.Fault
		if done || !errors.Is(err, e) || !errors.As(err, &f) || f.Op != "Call" || !strings.HasSuffix(err.Error(), e.Error()) {
			t.Errorf("thrown %v, caught %v", e, err)
		}
	}
}
