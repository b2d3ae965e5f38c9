package shadow

import (
	"errors"
	"fmt"
	"maps"
	"math/rand"
	"slices"
	"sort"
	"strings"
	"sync"
	"testing"

	"shadow/api"
	"shadow/head"
	"shadow/node"
	"shadow/volume"
)

// last is behind every key.
const last = "\xff\xff\xff\xff\xff\xff\xff\xff\xff"

// put lays a node in the next block.
func put(v *volume.Volume, next *int, n *node.Node) node.Place {
	*next++
	return n.Lay(v, *next)
}

// pieces cuts a list into pieces of three, of which the last may have up to five entries.
func pieces[E any](list []E) [][]E {
	var out [][]E
	for len(list) > 5 {
		out, list = append(out, list[:3]), list[3:]
	}
	return append(out, list)
}

// stored is a disk on which these keys are committed, each with a value of its own name; they must rise.
func stored(t *testing.T, blocks int, keys ...string) *api.Disk {
	t.Helper()
	d := formatted(t, blocks, 1)
	v, next := volume.On(d), head.Slots-1
	var links []node.Link
	for i, piece := range pieces(keys) {
		n := &node.Node{}
		for _, k := range piece {
			n.Pairs = append(n.Pairs, node.Pair{Pair: api.Pair{Key: k, Value: "v" + k}})
		}
		l := node.Link{Place: put(v, &next, n)}
		if i > 0 {
			l.Key = piece[0]
		}
		links = append(links, l)
	}
	for level := 1; len(links) > 1; level++ {
		var above []node.Link
		for _, piece := range pieces(links) {
			above = append(above, node.Link{Key: piece[0].Key, Place: put(v, &next, &node.Node{Level: level, Links: piece})})
		}
		links = above
	}
	h, _ := head.Newest(v)
	head.Lay(v, h.Next(links[0].Place))
	return d
}

// keys are so many, that rise.
func keys(n int) []string {
	var out []string
	for i := range n {
		out = append(out, fmt.Sprintf("k%03d", i))
	}
	return out
}

// open is the store on a device.
func open(t *testing.T, d api.Device) *DB {
	t.Helper()
	x, err := Open(d)
	if err != nil || x == nil {
		t.Fatalf("P4: Open: %v", err)
	}
	return x
}

func begin(t *testing.T, x *DB, write bool) *Txn {
	t.Helper()
	y, err := x.Begin(write)
	if err != nil || y == nil {
		t.Fatalf("P5: Begin(%v): %v", write, err)
	}
	return y
}

func cursor(t *testing.T, y *Txn) *Cursor {
	t.Helper()
	c, err := y.Cursor()
	if err != nil || c == nil {
		t.Fatalf("P8: Cursor: %v", err)
	}
	return c
}

// all is what All goes through, and what it tells at its end.
func all(y *Txn, lo, hi string) ([]api.Pair, error) {
	var out []api.Pair
	for p, err := range y.All(lo, hi) {
		if err != nil {
			return out, err
		}
		out = append(out, p)
	}
	return out, nil
}

// sees are the keys that a transaction sees.
func sees(t *testing.T, y *Txn) string {
	t.Helper()
	l, err := all(y, "", last)
	want(t, "P7: All", err, api.OK)
	s := ""
	for _, p := range l {
		s += p.Key + "=" + p.Value + " "
	}
	return s
}

// step tells a move in short.
func step(p api.Pair, there bool, err error) string {
	if err != nil {
		if p != (api.Pair{}) || there {
			return "a pair beside an error"
		}
		return told(err).Error()
	}
	if !there && p == (api.Pair{}) {
		return "none"
	}
	if !there {
		return "a pair that is not there"
	}
	return p.Key
}

// moves are all moves of a cursor.
func moves(c *Cursor) map[string]func() (api.Pair, bool, error) {
	return map[string]func() (api.Pair, bool, error){
		"First": c.First, "Last": c.Last, "Next": c.Next, "Prev": c.Prev,
		"Seek": func() (api.Pair, bool, error) { return c.Seek("a") },
	}
}

// calls are all calls of a store, of a transaction of it and of a cursor of that; each tells whether it answered anything beside its error.
func calls(x *DB, y *Txn, c *Cursor) map[string]func() (bool, error) {
	out := map[string]func() (bool, error){
		"Begin(true)":  func() (bool, error) { z, err := x.Begin(true); return z != nil, err },
		"Begin(false)": func() (bool, error) { z, err := x.Begin(false); return z != nil, err },
		"Put":          func() (bool, error) { return false, y.Put("k001", "v") },
		"Put(``)":      func() (bool, error) { return false, y.Put("", last+last) },
		"Delete":       func() (bool, error) { return false, y.Delete("k001") },
		"Delete(``)":   func() (bool, error) { return false, y.Delete("") },
		"Get":          func() (bool, error) { v, there, err := y.Get("k001"); return v != "" || there, err },
		"Get(``)":      func() (bool, error) { v, there, err := y.Get(""); return v != "" || there, err },
		"All":          func() (bool, error) { l, err := all(y, "", last); return l != nil, err },
		"All of none":  func() (bool, error) { l, err := all(y, "b", "a"); return l != nil, err },
		"Cursor":       func() (bool, error) { z, err := y.Cursor(); return z != nil, err },
		"Commit":       func() (bool, error) { return false, y.Commit() },
		"Abort":        func() (bool, error) { return false, y.Abort() },
	}
	for name, move := range moves(c) {
		out[name] = func() (bool, error) { p, there, err := move(); return there || p != (api.Pair{}), err }
	}
	return out
}

func TestBegin(t *testing.T) {
	for _, blocks := range []int{8, 400} {
		x := open(t, formatted(t, blocks, 1))
		var l []*Txn
		for range api.MaxReads {
			l = append(l, begin(t, x, false))
			y, err := x.Begin(false)
			if len(l) == api.MaxReads {
				want(t, "P5: a fifth one that reads", err, api.ErrBusy)
				if y != nil {
					t.Error("P1: a transaction beside an error")
				}
			} else {
				want(t, "P5: one that reads", err, api.OK)
				want(t, "P9: Abort", y.Abort(), api.OK)
			}
		}
		w := begin(t, x, true)
		y, err := x.Begin(true)
		want(t, "P5: a second one that writes", err, api.ErrBusy)
		if y != nil {
			t.Error("P1: a transaction beside an error")
		}
		for i := range 12 {
			r := l[i%len(l)]
			ends := []func() error{r.Abort, r.Commit}
			want(t, "P9: Abort, or Commit of one that reads", ends[i%2](), api.OK)
			l[i%len(l)] = begin(t, x, false)
			_, err := x.Begin(false)
			want(t, "P5: a fifth one that reads", err, api.ErrBusy)
		}
		want(t, "P9: Abort", w.Abort(), api.OK)
		w = begin(t, x, true)
		want(t, "P9: Commit of one that changed nothing", w.Commit(), api.OK)
		want(t, "P9: Commit of one that is over", w.Commit(), api.ErrDone)
		begin(t, x, true)
	}
}

// A transaction that is over twice does not make room for two.
func TestEndsOnce(t *testing.T) {
	x := open(t, formatted(t, 40, 1))
	r, w := begin(t, x, false), begin(t, x, true)
	for _, y := range []*Txn{r, w} {
		want(t, "P9: Abort", y.Abort(), api.OK)
		want(t, "P9: Abort again", y.Abort(), api.ErrDone)
		want(t, "P9: Commit", y.Commit(), api.ErrDone)
	}
	for range api.MaxReads {
		begin(t, x, false)
	}
	_, err := x.Begin(false)
	want(t, "P5: a fifth one that reads", err, api.ErrBusy)
	begin(t, x, true)
	_, err = x.Begin(true)
	want(t, "P5: a second one that writes", err, api.ErrBusy)
}

// The document's first example, but for Commits of one that writes.
func TestExampleOfTwo(t *testing.T) {
	x := open(t, stored(t, 40, "a"))
	r, w := begin(t, x, false), begin(t, x, true)
	want(t, "P6: Put", w.Put("a", "2"), api.OK)
	want(t, "P6: Put", w.Put("b", "3"), api.OK)
	if a, b := sees(t, r), sees(t, w); a != "a=va " || b != "a=2 b=3 " {
		t.Errorf("P5: one that reads sees %s; one that writes %s", a, b)
	}
	_, err := x.Begin(true)
	want(t, "P5: Begin", err, api.ErrBusy)
	want(t, "P6: Put by one that reads", r.Put("a", ""), api.ErrRead)
	want(t, "P6: Delete by one that reads", r.Delete("a"), api.ErrRead)
	late := begin(t, x, false)
	want(t, "P9: Abort", w.Abort(), api.OK)
	_, _, err = w.Get("a")
	want(t, "P6: Get of one that is over", err, api.ErrDone)
	for _, y := range []*Txn{r, late, begin(t, x, false), begin(t, x, true)} {
		if s := sees(t, y); s != "a=va " {
			t.Errorf("P9: behind Abort: %s", s)
		}
	}
}

func TestKeysAndValues(t *testing.T) {
	x := open(t, formatted(t, 60, 1))
	y, r := begin(t, x, true), begin(t, x, false)
	for _, n := range []int{0, 1, 2, 7, 8, 9, 100} {
		for _, m := range []int{0, 1, 11, 12, 13, 100} {
			k, v := strings.Repeat("\xff", n), strings.Repeat("\x00", m)
			e, eOfKey := api.OK, api.OK
			if n == 0 || n > 8 {
				e, eOfKey = api.ErrKey, api.ErrKey
			} else if m > 12 {
				e = api.ErrValue
			}
			name := fmt.Sprintf(" of %d and %d bytes", n, m)
			want(t, "P6: Put"+name, y.Put(k, v), e)
			got, there, err := y.Get(k)
			want(t, "P6: Get"+name, err, eOfKey)
			if there != (e == api.OK) || there && got != v || !there && got != "" {
				t.Errorf("P6: Get%s: %q, %v", name, got, there)
			}
			want(t, "P6: Put by one that reads"+name, r.Put(k, v), api.ErrRead)
			want(t, "P6: Delete by one that reads"+name, r.Delete(k), api.ErrRead)
			got, there, err = r.Get(k)
			want(t, "P6: Get by one that reads"+name, err, eOfKey)
			if got != "" || there {
				t.Errorf("P5: one that reads sees%s %q, %v", name, got, there)
			}
			for range 2 {
				want(t, "P6: Delete"+name, y.Delete(k), eOfKey)
			}
			if s := sees(t, y); s != "" {
				t.Errorf("P6: behind Delete%s: %q", name, s)
			}
		}
	}
}

// What is refused changes nothing.
func TestRefused(t *testing.T) {
	x := open(t, stored(t, 40, "a", "b"))
	y := begin(t, x, true)
	want(t, "P6", y.Put("a", "1"), api.OK)
	for _, err := range []error{y.Put("", "x"), y.Put("a", strings.Repeat("x", 13)), y.Put(last, "x"), y.Delete(""), y.Delete(last)} {
		if err == nil {
			t.Error("P6: nothing is wrong")
		}
	}
	if s := sees(t, y); s != "a=1 b=vb " {
		t.Errorf("P1: behind errors: %s", s)
	}
}

// Which error is told, where several apply.
func TestErrorsInOrder(t *testing.T) {
	x := open(t, stored(t, 40, keys(9)...))
	w, r := begin(t, x, true), begin(t, x, false)
	c, rc := cursor(t, w), cursor(t, r)
	c.First()
	long := strings.Repeat("x", 13)
	want(t, "P6: Put: ErrRead ahead of ErrKey", r.Put("", long), api.ErrRead)
	want(t, "P6: Put: ErrRead ahead of ErrValue", r.Put("a", long), api.ErrRead)
	want(t, "P6: Delete: ErrRead ahead of ErrKey", r.Delete(""), api.ErrRead)
	want(t, "P6: Put: ErrKey ahead of ErrValue", w.Put("", long), api.ErrKey)
	for _, y := range []*Txn{r, w} {
		want(t, "P9: Abort", y.Abort(), api.OK)
		want(t, "P6: Put: ErrDone ahead of all", y.Put("", long), api.ErrDone)
		want(t, "P6: Delete: ErrDone ahead of all", y.Delete(""), api.ErrDone)
		_, _, err := y.Get("")
		want(t, "P6: Get: ErrDone ahead of ErrKey", err, api.ErrDone)
	}
	for name, call := range calls(x, w, c) {
		if strings.HasPrefix(name, "Begin") {
			continue
		}
		any, err := call()
		want(t, "P6 to P9: "+name+" of one that is over", err, api.ErrDone)
		if any {
			t.Errorf("P1: %s answers something beside ErrDone", name)
		}
	}
	for name, move := range moves(rc) { // it stands nowhere, too
		if s := step(move()); s != "ErrDone" {
			t.Errorf("P8: %s of one that is over: %s", name, s)
		}
	}
}

func TestAll(t *testing.T) {
	ks := []string{"\x00", "\x00\x00", "a", "aa", "ab", "b", "bbbbbbbb", "c", "\x7f", "\x80", "\xff", "\xff\xff\xff\xff\xff\xff\xff\xff"}
	x := open(t, stored(t, 60, ks...))
	w := begin(t, x, true)
	for _, k := range ks {
		want(t, "P6", w.Delete(k), api.OK)
	}
	for _, i := range rand.New(rand.NewSource(1)).Perm(len(ks)) {
		want(t, "P6", w.Put(ks[i], "v"+ks[i]), api.OK)
	}
	bounds := append([]string{"", "\x00\x00\x00", "a\x00", "bbbbbbbbb", "d", last, strings.Repeat("b", 100)}, ks...)
	for _, y := range []*Txn{w, begin(t, x, false)} {
		for _, lo := range bounds {
			for _, hi := range bounds {
				var among []api.Pair
				for _, k := range ks {
					if k >= lo && k < hi {
						among = append(among, api.Pair{Key: k, Value: "v" + k})
					}
				}
				got, err := all(y, lo, hi)
				want(t, "P7: All", err, api.OK)
				if !slices.Equal(got, among) {
					t.Errorf("P7: All(%q, %q): %q, want %q", lo, hi, got, among)
				}
			}
		}
	}
}

// All stops when it is told to; what it gave may be gone through again.
func TestAllStops(t *testing.T) {
	y := begin(t, open(t, stored(t, 60, keys(20)...)), false)
	seq := y.All("k003", "k015")
	for most := 1; most <= 13; most++ {
		var got []string
		seq(func(p api.Pair, err error) bool {
			want(t, "P7: All", err, api.OK)
			got = append(got, p.Key)
			if len(got) > most {
				t.Fatal("P7: All goes on, though it was told to stop")
			}
			return len(got) < most
		})
		if w := keys(20)[3:min(15, 3+most)]; !slices.Equal(got, w) {
			t.Errorf("P7: All, stopped behind %d: %v, want %v", most, got, w)
		}
	}
	want(t, "P9: Abort", y.Abort(), api.OK)
	n := 0
	seq(func(p api.Pair, err error) bool {
		n++
		want(t, "P7: All of one that is over", err, api.ErrDone)
		return true
	})
	if n != 1 {
		t.Errorf("P7: ErrDone is told %d times", n)
	}
}

// Whoever gets a pair may call: nothing waits for All.
func TestCallsWithinAll(t *testing.T) {
	x := open(t, stored(t, 60, keys(20)...))
	y := begin(t, x, false)
	c := cursor(t, y)
	n := 0
	for p, err := range y.All("", last) {
		want(t, "P7: All", err, api.OK)
		v, there, err := y.Get(p.Key)
		if err != nil || !there || v != p.Value {
			t.Errorf("P6: Get(%q) within All: %q, %v, %v", p.Key, v, there, err)
		}
		if s := step(c.Seek(p.Key)); s != p.Key {
			t.Errorf("P8: Seek(%q) within All: %s", p.Key, s)
		}
		inner, err := all(y, p.Key, last)
		if err != nil || len(inner) != 20-n {
			t.Errorf("P7: All within All: %d pairs, %v", len(inner), err)
		}
		z := begin(t, x, true)
		want(t, "P6: Put within All, of another transaction", z.Put(p.Key+"x", ""), api.OK)
		want(t, "P9: Abort within All, of another transaction", z.Abort(), api.OK)
		n++
	}
	if n != 20 {
		t.Errorf("P7: All goes through %d pairs", n)
	}
}

// What is changed while All is on its way is not gone through.
func TestChangesWithinAll(t *testing.T) {
	y := begin(t, open(t, stored(t, 60, "b", "c", "d")), true)
	want(t, "P6: Put", y.Put("e", "ve"), api.OK)
	seq := y.All("", last)
	for _, now := range []string{"b=vb c=vc d=vd e=ve ", "a=ax b=bx c=cx d=dx e=ex "} {
		got := ""
		for p, err := range seq {
			want(t, "P7: All", err, api.OK)
			got += p.Key + "=" + p.Value + " "
			for _, k := range []string{"a", "b", "c", "d", "e"} {
				want(t, "P6: Put within All", y.Put(k, k+"x"), api.OK)
			}
		}
		if got != now {
			t.Errorf("P7: All: %s, want %s", got, now)
		}
	}
}

// A transaction that is over while All is on its way: that is told at its end.
func TestOverWithinAll(t *testing.T) {
	for _, write := range []bool{false, true} {
		for at := range 3 {
			y := begin(t, open(t, stored(t, 60, "a", "b", "c")), write)
			var got []string
			for p, err := range y.All("", last) {
				got = append(got, p.Key+told(err).Error())
				if len(got) == at+1 {
					want(t, "P9: Abort", y.Abort(), api.OK)
				}
			}
			w := append([]string{"aOK", "bOK", "cOK"}[:at+1:at+1], "ErrDone")
			if !slices.Equal(got, w) {
				t.Errorf("P7: All, over behind %d pairs: %v", at+1, got)
			}
		}
	}
}

// A loop that is left by a panic leaves the store as it was.
func TestPanicWithinAll(t *testing.T) {
	y := begin(t, open(t, stored(t, 60, "a", "b", "c")), true)
	func() {
		defer func() {
			if r := recover(); r != "mine" {
				t.Errorf("P7: what the caller threw is lost: %v", r)
			}
		}()
		for range y.All("", last) {
			panic("mine")
		}
	}()
	if s := sees(t, y); s != "a=va b=vb c=vc " {
		t.Errorf("P7: behind a panic: %s", s)
	}
}

// All does not change the transaction: cursors stand where they stood.
func TestAllChangesNothing(t *testing.T) {
	y := begin(t, open(t, stored(t, 60, "a", "b", "c")), true)
	c := cursor(t, y)
	c.First()
	sees(t, y)
	y.Get("a")
	cursor(t, y).Last()
	if s := step(c.Next()); s != "b" {
		t.Errorf("P8: Next behind All, Get and another cursor's move: %s", s)
	}
}

// The document's second example, of keys that were put and of keys that are committed.
func TestExampleOfCursors(t *testing.T) {
	put := begin(t, open(t, formatted(t, 60, 1)), true)
	for _, k := range []string{"e", "a", "c"} {
		want(t, "P6", put.Put(k, ""), api.OK)
	}
	for _, y := range []*Txn{put, begin(t, open(t, stored(t, 60, "a", "c", "e")), true)} {
		c := cursor(t, y)
		s := []string{step(c.First()), step(c.Next()), step(c.Seek("d")), step(c.Next()), step(c.Next()), step(c.Last()), step(c.Prev())}
		want(t, "P6: Put", y.Put("b", ""), api.OK)
		s = append(s, step(c.Next()), step(c.Seek("a")), step(c.Next()))
		if got := strings.Join(s, " "); got != "a c e none ErrPlace e c ErrPlace a b" {
			t.Errorf("P8: %s", got)
		}
	}
}

// A cursor that stands nowhere: a new one, and one that found no pair. ErrPlace leaves it so.
func TestNowhere(t *testing.T) {
	y := begin(t, open(t, stored(t, 60, "b", "c")), false)
	c := cursor(t, y)
	lost := map[string]func() (api.Pair, bool, error){
		"Seek": func() (api.Pair, bool, error) { return c.Seek("d") },
		"Next": func() (api.Pair, bool, error) { c.Last(); return c.Next() },
		"Prev": func() (api.Pair, bool, error) { c.First(); return c.Prev() },
		"new":  func() (api.Pair, bool, error) { c = cursor(t, y); return api.Pair{}, false, nil },
	}
	for name, lose := range lost {
		for _, then := range []string{"Next", "Prev"} {
			if s := step(lose()); s != "none" {
				t.Errorf("P8: %s: %s", name, s)
			}
			for range 2 {
				if s := step(moves(c)[then]()); s != "ErrPlace" {
					t.Errorf("P8: %s of one that stands nowhere (%s): %s", then, name, s)
				}
			}
			for key, want := range map[string]string{"": "b", "b": "b", "b\x00": "c", "c": "c"} {
				lose()
				if s := step(c.Seek(key)); s != want {
					t.Errorf("P8: Seek(%q) of one that stands nowhere: %s", key, s)
				}
			}
		}
	}
	empty := cursor(t, begin(t, open(t, formatted(t, 8, 1)), true))
	for _, key := range []string{"", "a", last} {
		if s := []string{step(empty.First()), step(empty.Last()), step(empty.Seek(key)), step(empty.Next()), step(empty.Prev())}; fmt.Sprint(s) != "[none none none ErrPlace ErrPlace]" {
			t.Errorf("P8: moves where nothing is: %v", s)
		}
	}
}

// A Put or Delete answered with nil since it came to stand, even one that makes no difference, of its own transaction alone.
func TestChangedSince(t *testing.T) {
	x := open(t, stored(t, 60, "a", "b", "c"))
	w, r := begin(t, x, true), begin(t, x, false)
	c, o, rc := cursor(t, w), cursor(t, w), cursor(t, r)
	changes := map[string]func() error{
		"Put of a new key":         func() error { return w.Put("bb", "") },
		"Put of the same":          func() error { return w.Put("a", "va") },
		"Put of where it stands":   func() error { return w.Put("b", "x") },
		"Delete":                   func() error { return w.Delete("bb") },
		"Delete of none":           func() error { return w.Delete("z") },
		"Put and Delete":           func() error { return errors.Join(w.Put("d", ""), w.Delete("d")) },
		"Delete of where it stood": func() error { return errors.Join(w.Delete("b"), w.Put("b", "")) },
	}
	for name, change := range changes {
		for _, then := range []string{"Next", "Prev"} {
			c.Seek("b")
			o.First()
			rc.Seek("b")
			want(t, "P6: "+name, change(), api.OK)
			for range 2 {
				if s := step(moves(c)[then]()); s != "ErrPlace" {
					t.Errorf("P8: %s behind %s: %s", then, name, s)
				}
			}
			if s := step(o.Next()); s != "ErrPlace" {
				t.Errorf("P8: Next of another cursor behind %s: %s", name, s)
			}
			if s := step(rc.Next()); s != "c" {
				t.Errorf("P5, P8: Next of another transaction's cursor behind %s: %s", name, s)
			}
			if s := step(c.Seek("b")); s != "b" {
				t.Errorf("P8: Seek behind %s: %s", name, s)
			}
			if s := step(c.Prev()); s != "a" {
				t.Errorf("P8: Prev of where it came to stand again: %s", s)
			}
		}
	}
	c.Seek("b")
	for _, err := range []error{w.Put("", ""), w.Put("a", last+last), w.Put(last, ""), w.Delete(""), w.Delete(last), r.Put("b", ""), r.Delete("b")} {
		if err == nil {
			t.Error("P6: nothing is wrong")
		}
	}
	if s := step(c.Prev()); s != "a" {
		t.Errorf("P8: Prev behind changes that were refused: %s", s)
	}
}

// Where the pair is gone on which it stood, it stands nowhere in particular; no move finds that pair.
func TestDeletedUnder(t *testing.T) {
	w := begin(t, open(t, stored(t, 60, "a", "b", "c")), true)
	c := cursor(t, w)
	c.Seek("b")
	want(t, "P6: Delete", w.Delete("b"), api.OK)
	if s := []string{step(c.Next()), step(c.Prev()), step(c.Seek("b")), step(c.Prev()), step(c.Next())}; fmt.Sprint(s) != "[ErrPlace ErrPlace c a c]" {
		t.Errorf("P8: behind a Delete of where it stood: %v", s)
	}
}

// All that is done, beside a map: on what is committed, changed in many ways.
func TestBesideAMap(t *testing.T) {
	for seed := range int64(6) {
		r := rand.New(rand.NewSource(seed))
		x := open(t, stored(t, 400, keys(150)...))
		w, reads := begin(t, x, true), begin(t, x, false)
		before := sees(t, reads)
		m := map[string]string{}
		for _, k := range keys(150) {
			m[k] = "v" + k
		}
		for i := range 600 {
			k := fmt.Sprintf("k%03d", r.Intn(200))[:1+r.Intn(4)] + strings.Repeat("\xff", r.Intn(5))
			if r.Intn(3) == 0 {
				want(t, "P6: Put", w.Put(k, k), api.OK)
				m[k] = k
			} else {
				want(t, "P6: Delete", w.Delete(k), api.OK)
				delete(m, k)
			}
			if i%50 == 0 {
				against(t, w, m, r)
			}
		}
		if s := sees(t, reads); s != before {
			t.Errorf("P5: one that reads sees changes: %s", s)
		}
		want(t, "P9: Abort", w.Abort(), api.OK)
		if s := sees(t, begin(t, x, true)); s != before {
			t.Errorf("P9: behind Abort: %s", s)
		}
	}
}

// against holds what a transaction sees against a map, by All and by a cursor.
func against(t *testing.T, y *Txn, m map[string]string, r *rand.Rand) {
	t.Helper()
	ks := slices.Sorted(maps.Keys(m))
	got, err := all(y, "", last)
	want(t, "P7: All", err, api.OK)
	if len(got) != len(ks) {
		t.Fatalf("P7: All: %d pairs, want %d", len(got), len(ks))
	}
	c, n := cursor(t, y), 0
	for p, there, err := c.First(); there || err != nil; p, there, err = c.Next() {
		if err != nil || p.Key != ks[n] || p.Value != m[ks[n]] || p != got[n] {
			t.Fatalf("P8: %d-th pair: %v, %v; All: %v", n, p, err, got[n])
		}
		n++
	}
	for p, there, err := c.Last(); there || err != nil; p, there, err = c.Prev() {
		if n--; err != nil || p.Key != ks[n] {
			t.Fatalf("P8: back at %d: %v, %v", n, p, err)
		}
	}
	for range 50 {
		k := fmt.Sprintf("k%03d", r.Intn(200))[:r.Intn(5)] + strings.Repeat("\xff", r.Intn(6))
		at := sort.SearchStrings(ks, k)
		behind, ahead := "none", "none"
		if at < len(ks) {
			behind = ks[at]
		}
		if at > 0 {
			ahead = ks[at-1]
		}
		if s := step(c.Seek(k)); s != behind {
			t.Fatalf("P8: Seek(%q): %s, want %s", k, s, behind)
		}
		if at < len(ks) {
			if s := step(c.Prev()); s != ahead {
				t.Fatalf("P8: Prev behind Seek(%q): %s, want %s", k, s, ahead)
			}
		}
	}
}

// worst are keys and values that take the most room, put so that the nodes are as empty as can be: in rising, in falling and in mixed order.
func worst(n int) [][]string {
	var rising []string
	for i := range n {
		rising = append(rising, fmt.Sprintf("%08d", i))
	}
	falling := slices.Clone(rising)
	slices.Reverse(falling)
	mixed := slices.Clone(rising)
	rand.New(rand.NewSource(1)).Shuffle(n, func(i, j int) { mixed[i], mixed[j] = mixed[j], mixed[i] })
	return [][]string{rising, falling, mixed}
}

// Where there is room no Put is answered with ErrSpace.
func TestRoom(t *testing.T) {
	for _, blocks := range []int{15, 16, 17, 18, 40, 100, 255, 256, 399, 400} {
		n := (blocks - 12) / 3
		for _, ks := range worst(n) {
			x := open(t, formatted(t, blocks, 1))
			y := begin(t, x, true)
			for _, k := range ks {
				want(t, "P11: Put", y.Put(k, "0123456789ab"), api.OK)
			}
			x = open(t, stored(t, blocks, worst(n)[0]...))
			y = begin(t, x, true)
			for _, k := range ks {
				want(t, "P11: Put again", y.Put(k, "0123456789ab"), api.OK)
			}
			for _, k := range ks {
				want(t, "P6: Delete", y.Delete(k), api.OK)
				want(t, "P11: Put of another", y.Put("x"+k[1:], "0123456789ab"), api.OK)
			}
		}
	}
}

// Where there is none, Put is answered with ErrSpace, and nothing is changed; a Delete makes room.
func TestNoRoom(t *testing.T) {
	for _, blocks := range []int{8, 9, 14, 40} {
		y := begin(t, open(t, formatted(t, blocks, 1)), true)
		c := cursor(t, y)
		n := 0
		for ; y.Put(fmt.Sprintf("%08d", n), "0123456789ab") == nil; n++ {
			if n > 400*6 {
				t.Fatalf("P6: %d keys are put on %d blocks", n, blocks)
			}
		}
		before := sees(t, y)
		c.First()
		want(t, "P6: Put", y.Put(fmt.Sprintf("%08d", n), "0123456789ab"), api.ErrSpace)
		if s := sees(t, y); s != before || n == 0 {
			t.Errorf("P6: behind ErrSpace, %d keys: %s", n, s)
		}
		if s := step(c.Next()); s != "00000001" {
			t.Errorf("P8: Next behind a Put that was answered with ErrSpace: %s", s)
		}
		for i := range n {
			want(t, "P6: Delete", y.Delete(fmt.Sprintf("%08d", i)), api.OK)
		}
		for i := range n {
			want(t, "P6: Put", y.Put(fmt.Sprintf("%08d", i), "0123456789ab"), api.OK)
		}
	}
}

// Put does not take more blocks than are beside the heads and what is committed.
func TestNoRoomBesideATree(t *testing.T) {
	d := stored(t, 20, keys(12)...) // in 5 blocks
	y := begin(t, open(t, d), true)
	n := 0
	for ; y.Put(fmt.Sprintf("%08d", n), "0123456789ab") == nil; n++ {
	}
	if made := y.sees.New(); made > 20-head.Slots-5 || made < 20-head.Slots-5-2 {
		t.Errorf("P6: %d new nodes beside 5, on 20 blocks", made)
	}
}

// Many goroutines, on one store.
func TestTogether(t *testing.T) {
	x := open(t, stored(t, 400, keys(60)...))
	w := begin(t, x, true)
	c := cursor(t, w)
	var group sync.WaitGroup
	bad := make([]string, 8)
	for g := range bad {
		group.Go(func() {
			for i := range 60 {
				k := fmt.Sprintf("g%d%02d", g, i)
				if w.Put(k, k) != nil || w.Put(k, "v") != nil {
					bad[g] = "Put"
				}
				if v, there, err := w.Get(k); err != nil || !there || v != "v" {
					bad[g] = "Get"
				}
				if i%3 == 0 && w.Delete(k) != nil {
					bad[g] = "Delete"
				}
				if _, there, err := c.Seek("g"); err != nil || !there {
					bad[g] = "Seek"
				}
				if _, _, err := c.Next(); err != nil && told(err) != api.ErrPlace {
					bad[g] = "Next"
				}
				if r, err := x.Begin(false); err == nil {
					if l, err := all(r, "", last); err != nil || len(l) != 60 {
						bad[g] = "All"
					}
					if r.Abort() != nil {
						bad[g] = "Abort"
					}
				} else if told(err) != api.ErrBusy {
					bad[g] = "Begin"
				}
			}
		})
	}
	group.Wait()
	l, err := all(w, "", last)
	want(t, "P7: All", err, api.OK)
	if s := strings.Join(bad, ""); s != "" || len(l) != 60+8*40 {
		t.Errorf("P2: %v, %d pairs", bad, len(l))
	}
}

// One of many Begins that are made at a time is answered.
func TestBeginTogether(t *testing.T) {
	for _, write := range []bool{true, false} {
		x := open(t, formatted(t, 40, 1))
		begun := make([]int, 16)
		var group sync.WaitGroup
		for g := range begun {
			group.Go(func() {
				if _, err := x.Begin(write); err == nil {
					begun[g] = 1
				}
			})
		}
		group.Wait()
		n := 0
		for _, one := range begun {
			n += one
		}
		if most := map[bool]int{true: 1, false: api.MaxReads}[write]; n != most {
			t.Errorf("P2, P5: of 16 Begin(%v) at a time %d are answered, want %d", write, n, most)
		}
	}
}

// Stores do not hang on each other.
func TestTwoStores(t *testing.T) {
	d, e := stored(t, 40, "a"), stored(t, 40, "b")
	x, y := open(t, d), open(t, e)
	w := begin(t, x, true)
	z := begin(t, y, true)
	want(t, "P6: Put", w.Put("c", ""), api.OK)
	d.Off(0)
	_, _, err := w.Get("a")
	want(t, "P6: Get of what is new", err, api.OK)
	_, err = all(begin(t, x, false), "", last)
	want(t, "P1: All without power", err, api.ErrIO)
	if s := sees(t, z); s != "b=vb " {
		t.Errorf("P2: another store sees %s", s)
	}
}
