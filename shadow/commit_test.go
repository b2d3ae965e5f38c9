package shadow

import (
	"fmt"
	"math/rand"
	"runtime"
	"slices"
	"strings"
	"sync"
	"testing"

	"shadow/api"
	"shadow/head"
)

// change makes changes: a key with a value behind = is put, any other is deleted.
func change(t *testing.T, y *Txn, changes ...string) {
	t.Helper()
	for _, c := range changes {
		if k, v, puts := strings.Cut(c, "="); puts {
			want(t, "P6, P11: Put("+k+")", y.Put(k, v), api.OK)
		} else {
			want(t, "P6: Delete("+k+")", y.Delete(k), api.OK)
		}
	}
}

// commit commits changes, and tells what is committed then.
func commit(t *testing.T, x *DB, changes ...string) string {
	t.Helper()
	y := begin(t, x, true)
	change(t, y, changes...)
	s := sees(t, y)
	want(t, "P9: Commit", y.Commit(), api.OK)
	return s
}

// content is what is committed.
func content(t *testing.T, x *DB) string {
	t.Helper()
	y := begin(t, x, false)
	s := sees(t, y)
	want(t, "P9: Abort", y.Abort(), api.OK)
	return s
}

// puts are changes that put keys, all with one value.
func puts(value string, keys ...string) []string {
	var out []string
	for _, k := range keys {
		out = append(out, k+"="+value)
	}
	return out
}

// story is of transactions that were committed, and of one behind them.
type story struct {
	blocks int
	ahead  [][]string
	last   []string
}

func stories() map[string]story {
	forty, long := keys(40), worst(12)[2]
	return map[string]story{
		"the first key":        {8, nil, []string{"a=1"}},
		"another value":        {8, [][]string{{"a=1"}}, []string{"a=2"}},
		"the last key":         {8, [][]string{{"a=1", "b=2"}, {"a"}}, []string{"b"}},
		"two and one":          {40, [][]string{{"a=1"}}, []string{"a=2", "b=3"}},
		"none that was there":  {8, [][]string{{"a=1"}}, []string{"b"}},
		"the same again":       {8, [][]string{{"a=1"}, {"b=1"}}, []string{"a=1"}},
		"there and gone":       {8, [][]string{{"a=1"}}, []string{"b=1", "b"}},
		"a second level":       {20, [][]string{puts("0123456789ab", long[:5]...)}, puts("0123456789ab", long[5:8]...)},
		"one level again":      {20, [][]string{puts("0123456789ab", long[:7]...)}, long[:4]},
		"one of many":          {100, [][]string{puts("0123456789ab", forty...), {"k000"}}, []string{"k020=x"}},
		"many of many":         {100, [][]string{puts("0123456789ab", forty...)}, append(puts("y", forty[5:25]...), forty[25:]...)},
		"all of many":          {100, [][]string{puts("0123456789ab", forty...), puts("z", forty[:9]...)}, forty},
		"in blocks used again": {24, [][]string{puts("1", long...), puts("22", long...), puts("333", long[:6]...), long[3:9]}, puts("4444", long[1:5]...)},
	}
}

// told is a disk and a store on it on which all but the last transaction was committed, that one, with its changes, and what is seen without and with it.
func (s story) told(t *testing.T) (d *api.Disk, x *DB, y *Txn, was, then string) {
	t.Helper()
	d = formatted(t, s.blocks, 1)
	x = open(t, d)
	for _, changes := range s.ahead {
		was = commit(t, x, changes...)
	}
	y = begin(t, x, true)
	change(t, y, s.last...)
	return d, x, y, was, sees(t, y)
}

// survivors calls f with choices of the sectors of n writes: with all that there are, if they are few; else with those of whole writes, and some more.
func survivors(n int, few int, r *rand.Rand, f func(keep []int)) {
	if n <= few {
		choices(n, f)
		return
	}
	for j := range n + 1 {
		upTo, but, one := make([]int, n), make([]int, n), make([]int, n)
		for i := range n {
			upTo[i], but[i] = 15, 15
			if i >= j {
				upTo[i] = 0
			}
		}
		if j < n {
			but[j], one[j] = r.Intn(15), 1+r.Intn(15)
		}
		f(upTo)
		f(but)
		f(one)
	}
	for range 10 {
		keep := make([]int, n)
		for i := range keep {
			keep[i] = r.Intn(16)
		}
		f(keep)
	}
}

// found opens a store and tells what is in it, which must be something that may be there, and be sure.
func found(t *testing.T, what string, d *api.Disk, may ...string) string {
	t.Helper()
	got := content(t, open(t, d))
	if !slices.Contains(may, got) {
		t.Fatalf("P9, P10: %s: found %s, where only %s may be", what, got, strings.Join(may, "or "))
	}
	if again := content(t, open(t, d.After(nil))); again != got || d.Pending() != 0 {
		t.Fatalf("P4: %s: found %s, and behind a failure of power %s", what, got, again)
	}
	return got
}

// What is committed is found by other transactions, by Open, and behind a failure of power; what is not is found by none.
func TestCommit(t *testing.T) {
	for name, s := range stories() {
		d, x, y, was, then := s.told(t)
		if got := content(t, x); got != was {
			t.Errorf("P5: %s: who reads sees %s, want %s", name, got, was)
		}
		found(t, name+", not committed", d.After(nil), was)
		want(t, "P9: Commit: "+name, y.Commit(), api.OK)
		if d.Pending() != 0 {
			t.Errorf("P9: %s: %d writes are not sure", name, d.Pending())
		}
		if got := content(t, x); got != then {
			t.Errorf("P9: %s: who reads sees %s, want %s", name, got, then)
		}
		w := begin(t, x, true)
		if got := sees(t, w); got != then {
			t.Errorf("P9: %s: who writes sees %s, want %s", name, got, then)
		}
		change(t, w, "z=1", "a")
		want(t, "P9: Abort", w.Abort(), api.OK)
		if got := content(t, x); got != then {
			t.Errorf("P9: %s: behind Abort: %s, want %s", name, got, then)
		}
		found(t, name, d.After(nil), then)
		found(t, name, d, then)
	}
}

// The document's first example, and the fourth.
func TestExampleOfCommits(t *testing.T) {
	x := open(t, formatted(t, 40, 1))
	commit(t, x, "a=1")
	r, w := begin(t, x, false), begin(t, x, true)
	change(t, w, "a=2", "b=3")
	gets := func(y *Txn, key, value string) {
		t.Helper()
		if v, there, err := y.Get(key); err != nil || v != value || there != (value != "") {
			t.Errorf("P5: Get(%s): %q, %v, %v, want %q", key, v, there, err, value)
		}
	}
	gets(r, "a", "1")
	_, err := x.Begin(true)
	want(t, "P5: Begin", err, api.ErrBusy)
	want(t, "P6: Put by one that reads", r.Put("a", ""), api.ErrRead)
	want(t, "P9: Commit", w.Commit(), api.OK)
	gets(r, "a", "1")
	gets(r, "b", "")
	for _, write := range []bool{false, true} {
		y := begin(t, x, write)
		gets(y, "a", "2")
		gets(y, "b", "3")
	}
	_, _, err = w.Get("a")
	want(t, "P9: Get behind Commit", err, api.ErrDone)
}

// Behind Commit, whatever it was answered with, a transaction is over; another may begin.
func TestOverBehindCommit(t *testing.T) {
	x := open(t, formatted(t, 8, 1))
	nothing, little := begin(t, x, true), []string{"a=1"}
	ends := map[string]func(y *Txn) error{
		"Commit": func(y *Txn) error { return y.Commit() },
		"Abort":  func(y *Txn) error { return y.Abort() },
	}
	want(t, "P9: Commit of one that changed nothing", nothing.Commit(), api.OK)
	for name, end := range ends {
		for _, write := range []bool{true, false} {
			y := begin(t, x, write)
			c := cursor(t, y)
			if write {
				change(t, y, little...)
			}
			c.First()
			want(t, "P9: "+name, end(y), api.OK)
			for call, ask := range calls(x, y, c) {
				if strings.HasPrefix(call, "Begin") {
					continue
				}
				if any, err := ask(); told(err) != api.ErrDone || any {
					t.Errorf("P9: %s behind %s: %v, want ErrDone", call, name, err)
				}
			}
		}
	}
	if got := content(t, x); got != "a=1 " {
		t.Errorf("P9: %s", got)
	}
}

// A transaction that changes nothing that is there has nothing to write; nor is one that reads asked for anything.
func TestNothingToCommit(t *testing.T) {
	for _, ahead := range [][]string{nil, {"a=1"}} {
		d := formatted(t, 8, 1)
		x := open(t, d)
		was := commit(t, x, ahead...)
		writes, before := d.Writes(), d.Bytes()
		r := begin(t, x, false)
		commit(t, x)
		commit(t, x, "b", "c")
		want(t, "P9: Commit of one that reads", r.Commit(), api.OK)
		if d.Writes() != writes || d.Bytes() != before || content(t, x) != was {
			t.Error("P9: a Commit of nothing writes")
		}
	}
}

// A failure of power at each call of a Commit, with each choice of what survives: what was committed is found, or all of the transaction, and it stays.
func TestCommitCut(t *testing.T) {
	t.Parallel()
	for name, s := range stories() {
		r := rand.New(rand.NewSource(1))
		both, done := map[string]int{}, false
		for at := 0; !done; at++ {
			d, x, y, was, then := s.told(t)
			d.Off(at)
			before := d.Told()
			err := y.Commit()
			may := []string{was, then}
			if done = d.Told() == before; done {
				want(t, "P9: Commit: "+name, err, api.OK)
				may = []string{then}
			} else {
				want(t, "P9: Commit without power: "+name, err, api.ErrIO)
				_, err = x.Begin(false)
				want(t, "P1: Begin of a poisoned store", err, api.ErrPoisoned)
			}
			survivors(d.Pending(), 3, r, func(keep []int) {
				both[found(t, fmt.Sprintf("%s, off behind %d calls, sectors %v", name, at, keep), d.After(keep), may...)]++
			})
		}
		if _, _, _, was, then := s.told(t); both[then] == 0 || both[was] == 0 && name != "there and gone" {
			t.Errorf("P9: %s: found %v", name, both)
		}
	}
}

// The document's third example: and then the power fails at each call of an Open, and again.
func TestOpenCutBehindCommit(t *testing.T) {
	s := stories()["two and one"]
	r := rand.New(rand.NewSource(2))
	for at, done := 0, false; !done; at++ {
		d, _, y, was, then := s.told(t)
		if was != "a=1 " || then != "a=2 b=3 " {
			t.Fatal(was, then)
		}
		d.Off(at)
		done = y.Commit() == nil
		survivors(d.Pending(), 2, r, func(keep []int) {
			for off := range 8 {
				e := d.After(keep)
				first := content(t, open(t, d.After(keep)))
				e.Off(off)
				x, err := Open(e)
				if err != nil {
					want(t, "P4: Open without power", err, api.ErrIO)
				}
				if (x == nil) != (err != nil) || e.Pending() != 0 {
					t.Fatal("P4: Open without power makes something")
				}
				found(t, "behind an Open that was cut off", e.After(nil), first)
			}
		})
	}
}

// An error told at each call of a Commit, and another store opened, with or without a failure of power; an Open that is told an error, too, leaves what may be there.
func TestCommitTold(t *testing.T) {
	t.Parallel()
	for name, s := range stories() {
		r := rand.New(rand.NewSource(3))
		for at, done := 0, false; !done; at++ {
			for off := -1; off < 12; off++ {
				d, x, y, was, then := s.told(t)
				c := cursor(t, y)
				d.Bad(at, 1)
				before := d.Told()
				err := y.Commit()
				if done = d.Told() == before; done {
					want(t, "P9: Commit: "+name, err, api.OK)
					break
				}
				want(t, "P9: Commit that is told an error: "+name, err, api.ErrIO)
				poisoned(t, x, y, c)
				if off >= 0 {
					d.Bad(off, 1)
					Open(d)
				}
				d.Bad(0, 0)
				check := func(keep []int) {
					found(t, fmt.Sprintf("%s, an error behind %d calls, sectors %v", name, at, keep), d.After(keep), was, then)
				}
				if off < 0 {
					survivors(d.Pending(), 2, r, check)
				} else {
					check([]int{15, r.Intn(16), 15, r.Intn(16)})
					check([]int{r.Intn(16), 15, r.Intn(16), 15})
				}
				found(t, name+" behind ErrIO", d, was, then)
			}
		}
	}
}

// poisoned: each call is answered with ErrPoisoned, and nothing is beside that.
func poisoned(t *testing.T, x *DB, y *Txn, c *Cursor) {
	t.Helper()
	for name, call := range calls(x, y, c) {
		if any, err := call(); told(err) != api.ErrPoisoned || any {
			t.Errorf("P1: %s of a poisoned store: %v, want ErrPoisoned", name, err)
		}
	}
}

// Failures again behind a Commit that failed: the next one is cut off at each call, on what Open found without a failure of power.
func TestCommitCutBehindOneThatFailed(t *testing.T) {
	t.Parallel()
	for _, name := range []string{"another value", "the last key", "two and one", "a second level", "one of many", "in blocks used again"} {
		s := stories()[name]
		r := rand.New(rand.NewSource(4))
		for at, done := 0, false; !done; at++ {
			for off, all := 0, false; !all; off++ {
				d, _, y, was, then := s.told(t)
				d.Bad(at, 1)
				done = y.Commit() == nil
				d.Bad(0, 0)
				if done {
					break
				}
				x := open(t, d)
				got := content(t, x)
				if got != was && got != then {
					t.Fatalf("P9: %s: found %s", name, got)
				}
				w := begin(t, x, true)
				change(t, w, "k020=w", "b=8", "00000004")
				next := sees(t, w)
				d.Off(off)
				may := []string{got, next}
				if all = w.Commit() == nil; all {
					may = may[1:]
				}
				survivors(d.Pending(), 2, r, func(keep []int) {
					found(t, fmt.Sprintf("%s, failed behind %d calls, the next behind %d, sectors %v", name, at, off, keep), d.After(keep), may...)
				})
			}
		}
	}
}

// A Format behind a Commit that failed, cut off at each call, or told an error: what might be there, or an empty store.
func TestFormatBehindCommit(t *testing.T) {
	for _, name := range []string{"another value", "the last key", "two and one", "a second level"} {
		s := stories()[name]
		r := rand.New(rand.NewSource(5))
		for at, done := 0, false; !done; at++ {
			for off, all := 0, false; !all; off++ {
				for _, cut := range []bool{true, false} {
					d, _, y, was, then := s.told(t)
					d.Bad(at, 1)
					may := []string{was, then, ""}
					if done = y.Commit() == nil; done {
						may = may[1:]
					}
					d.Bad(off, 1)
					if cut {
						d.Bad(0, 0)
						d.Off(off)
					}
					if all = Format(d) == nil; all {
						may = []string{""}
					}
					survivors(d.Pending(), 2, r, func(keep []int) {
						found(t, fmt.Sprintf("%s, failed behind %d calls, Format behind %d, sectors %v", name, at, off, keep), d.After(keep), may...)
					})
				}
			}
		}
	}
}

// held is a device whose disk may be exchanged under a store.
type held struct {
	*api.Disk
}

// maybe is a device, and what may be there, as all that was called and answered so far says.
type maybe struct {
	*testing.T
	r      *rand.Rand
	d      *held
	x      *DB // nil, if no store is open
	may    []string
	none   bool     // Open may find nothing
	was    []string // what was there at some time since the last Format, or was to be
	turned bool     // a bit was turned since then, and none was opened since
	sound  bool     // Format was answered with nil, and no bit was turned since
}

// fail lets the device tell an error, or lose its power, behind some calls, or not at all.
func (m *maybe) fail(most int) {
	m.d.Bad(0, 0)
	switch m.r.Intn(3) {
	case 0:
		m.d.Bad(m.r.Intn(most), 1+m.r.Intn(3))
	case 1:
		m.d.Off(m.r.Intn(most))
	}
}

func (m *maybe) format() {
	m.fail(8)
	m.x = nil
	switch err := Format(m.d); told(err) {
	case api.OK:
		m.may, m.was, m.none, m.turned, m.sound = []string{""}, []string{""}, false, false, true
	case api.ErrIO:
		m.none = m.none || len(m.may) == 0
		m.may, m.was = append(m.may, ""), append(m.was, "")
	default:
		m.Fatal("P3: Format:", err)
	}
}

func (m *maybe) open() {
	m.fail(40)
	x, err := Open(m.d)
	m.d.Bad(0, 0)
	m.x = x
	switch told(err) {
	case api.OK:
		y := begin(m.T, x, false)
		got, ok := m.sees(y)
		if m.r.Intn(2) == 0 {
			y.Abort() // if not, one that reads goes on
		}
		if !ok { // the power is off
			m.x = nil
			return
		}
		m.find(got)
	case api.ErrCorrupt:
		if !m.none && !m.turned && len(m.may) > 0 {
			m.Fatalf("P4: found nothing, where %q may be", m.may)
		}
	case api.ErrIO:
	default:
		m.Fatal("P4: Open:", err)
	}
}

// sees is what a transaction sees, if the device tells it.
func (m *maybe) sees(y *Txn) (string, bool) {
	l, err := all(y, "", last)
	s := ""
	for _, p := range l {
		s += p.Key + "=" + p.Value + " "
	}
	return s, err == nil
}

// find: Open found this.
func (m *maybe) find(got string) {
	if m.turned && !slices.Contains(m.was, got) {
		m.Fatalf("P13: a bit turned: found %q, where %q were", got, m.was)
	}
	if !m.turned && !slices.Contains(m.may, got) {
		m.Fatalf("P4, P9, P10: found %q, where %q may be", got, m.may)
	}
	m.may, m.none, m.turned = []string{got}, false, false
}

// key is one that a transaction may see, or may not.
func (m *maybe) key(y *Txn) string {
	k := fmt.Sprintf("%0*d", 1+7*m.r.Intn(2), m.r.Intn(9))
	if m.r.Intn(2) == 0 {
		return k
	}
	l, _ := all(y, "", last)
	if len(l) == 0 {
		return k
	}
	return l[m.r.Intn(len(l))].Key
}

func (m *maybe) commit() {
	y, err := m.x.Begin(true)
	if err != nil {
		m.x = nil
		return
	}
	for range m.r.Intn(12) {
		if k := m.key(y); m.r.Intn(3) > 0 {
			y.Put(k, strings.Repeat("v", m.r.Intn(13)))
		} else {
			y.Delete(k)
		}
	}
	s, ok := m.sees(y)
	if !ok {
		m.x = nil
		return
	}
	m.fail(30)
	switch err = y.Commit(); told(err) {
	case api.OK:
		m.may, m.was = []string{s}, append(m.was, s)
	case api.ErrIO:
		m.may, m.was, m.x = append(m.may, s), append(m.was, s), nil
	case api.ErrSpace:
	default:
		m.Fatal("P9: Commit:", err)
	}
}

// cut: the power fails.
func (m *maybe) cut() {
	keep := make([]int, m.d.Pending())
	for i := range keep {
		keep[i] = []int{0, 15, m.r.Intn(16)}[m.r.Intn(3)]
	}
	m.d, m.x = &held{m.d.After(keep)}, nil
	if m.sound {
		either(m.T, "behind a failure of power", m.d.Disk, m.was)
	}
}

// goOn makes calls, one behind the other, in any order.
func (m *maybe) goOn(calls int) {
	for range calls {
		switch n := m.r.Intn(20); {
		case n == 0 || len(m.may) == 0 && n < 9:
			m.format()
		case n < 4:
			m.cut()
		case m.x == nil:
			m.open()
		default:
			m.commit()
		}
	}
}

// Commits, Opens, Formats and failures, one behind the other.
func TestWhatMayBeThere(t *testing.T) {
	t.Parallel()
	for seed := range int64(1500) {
		m := &maybe{T: t, r: rand.New(rand.NewSource(seed)), d: &held{api.NewDisk(10 + int(seed%40))}}
		m.goOn(60)
	}
}

// Those that read see what was committed when they began, whatever is committed then, by All, by Get and by cursors, till they are over.
func TestReadersStay(t *testing.T) {
	t.Parallel()
	for seed := range int64(20) {
		r := rand.New(rand.NewSource(seed))
		x := open(t, formatted(t, 400, 1))
		readers, saw, now := map[int]*Txn{}, map[int]string{}, ""
		for i := range 60 {
			if seat := r.Intn(api.MaxReads); readers[seat] != nil {
				want(t, "P9", []func() error{readers[seat].Abort, readers[seat].Commit}[r.Intn(2)](), api.OK)
				delete(readers, seat)
			} else {
				readers[seat] = begin(t, x, false)
				saw[seat] = now
			}
			y := begin(t, x, true)
			if got := sees(t, y); got != now {
				t.Fatalf("P9: committed is %s, want %s", got, now)
			}
			for range r.Intn(20) {
				k := fmt.Sprintf("k%03d", r.Intn(60))
				change(t, y, []string{k, k + "=" + strings.Repeat("v", i%13), k + "=x"}[r.Intn(3)])
			}
			now = sees(t, y)
			want(t, "P9, P11: Commit", y.Commit(), api.OK)
			for seat, y := range readers {
				if got := sees(t, y); got != saw[seat] {
					t.Fatalf("P5: one that reads sees %s, want %s", got, saw[seat])
				}
				c, n := cursor(t, y), 0
				for p, there, err := c.Last(); there || err != nil; p, there, err = c.Prev() {
					if v, is, wrong := y.Get(p.Key); err != nil || wrong != nil || !is || v != p.Value {
						t.Fatalf("P5: %v, %v: Get: %q, %v, %v", p, err, v, is, wrong)
					}
					n++
				}
				if n != strings.Count(saw[seat], " ") {
					t.Fatalf("P5: a cursor goes to %d pairs of %s", n, saw[seat])
				}
			}
		}
	}
}

// On a device that has just as many blocks as P11 names, with those that read still, no call is answered with ErrSpace, however often others are committed.
func TestRoomBesideReaders(t *testing.T) {
	for _, n := range []int{0, 1, 2, 3, 4, 7, 13, 30, 53, 97, 129} {
		for old := 0; old <= api.MaxReads; old++ {
			blocks := 3*n + 12 + old*(n+4)
			if blocks > api.MaxBlocks {
				continue
			}
			r := rand.New(rand.NewSource(int64(n)))
			x := open(t, formatted(t, blocks, 1))
			ks := append(worst(n)[0], "none")[:max(n, 1)]
			var readers []*Txn
			for i := range 60 {
				if len(readers) < old {
					readers = append(readers, begin(t, x, false))
				} else if old > 0 && i%3 == 0 {
					one := r.Intn(old)
					want(t, "P9: Abort", readers[one].Abort(), api.OK)
					readers[one] = begin(t, x, false)
				}
				y := begin(t, x, true)
				sparse(t, y, ks[:n], i, r)
				want(t, fmt.Sprintf("P11: Commit of %d keys on %d blocks, %d read", n, blocks, old), y.Commit(), api.OK)
			}
		}
	}
}

// sparse changes keys so that much is laid anew: all of them; or so that nodes are as empty as can be.
func sparse(t *testing.T, y *Txn, keys []string, i int, r *rand.Rand) {
	t.Helper()
	for j, k := range keys {
		switch {
		case i%3 == 0:
			change(t, y, k+"=0123456789ab")
		case i%3 == 1 && j%2 == 0:
			change(t, y, k)
		case i%3 == 2 && r.Intn(3) > 0:
			change(t, y, k+"="+strings.Repeat("v", r.Intn(13)))
		}
	}
	if len(keys) == 0 {
		change(t, y, "none")
	}
}

// On a smaller device Commits are answered with ErrSpace while one that reads goes on: what was committed is still, and the store is fit for use.
func TestSpace(t *testing.T) {
	ks := worst(8)[0]
	d := formatted(t, 9, 1)
	x := open(t, d)
	was := commit(t, x, puts("0123456789ab", ks...)...)
	r := begin(t, x, false)
	then := commit(t, x, ks[0]+"=ba9876543210")
	for i := range 5 {
		y := begin(t, x, true)
		change(t, y, puts(fmt.Sprintf("%012d", i), ks...)...)
		writes, bytes := d.Writes(), d.Bytes()
		want(t, "P9: Commit on a small device", y.Commit(), api.ErrSpace)
		want(t, "P9: Commit again", y.Commit(), api.ErrDone)
		if d.Writes() != writes || d.Bytes() != bytes || d.Pending() != 0 {
			t.Error("P9: a Commit that is answered with ErrSpace writes")
		}
		if got := content(t, x); got != then {
			t.Errorf("P9: behind ErrSpace: %s, want %s", got, then)
		}
		if got := sees(t, r); got != was {
			t.Errorf("P5: behind ErrSpace one that reads sees %s, want %s", got, was)
		}
		found(t, "behind ErrSpace", d.After(nil), then)
	}
	want(t, "P9: Abort", r.Abort(), api.OK)
	commit(t, x, puts("567890123456", ks...)...)
}

// Blocks are used again as soon as nobody reads what lies in them: on the smallest device there is always room for a key.
func TestUsedAgain(t *testing.T) {
	x := open(t, formatted(t, api.MinBlocks, 1))
	for i := range 300 {
		r := begin(t, x, false)
		was := sees(t, r)
		s := commit(t, x, fmt.Sprintf("a=%d", i))
		if got := sees(t, r); got != was || s != fmt.Sprintf("a=%d ", i) {
			t.Fatalf("P5, P9: %s, and one that reads sees %s, want %s", s, got, was)
		}
		want(t, "P9: Commit of one that reads", r.Commit(), api.OK)
	}
}

// The store counts the blocks of what is committed, so that Put is refused what could not be laid beside it.
func TestRoomBehindCommits(t *testing.T) {
	r := rand.New(rand.NewSource(6))
	d := formatted(t, 120, 1)
	x := open(t, d)
	for range 100 {
		y := begin(t, x, true)
		for range r.Intn(30) {
			k := fmt.Sprintf("k%03d", r.Intn(90))
			change(t, y, []string{k, k + "=0123456789ab", k + "=x"}[r.Intn(3)])
		}
		want(t, "P9: Commit", y.Commit(), api.OK)
		z := open(t, d)
		if x.blocks != z.blocks || x.committed != z.committed {
			t.Fatalf("P6: the store counts %d blocks, where another finds %d", x.blocks, z.blocks)
		}
	}
}

// How many blocks a Commit writes: for one change and for many, with few keys and with many, short and long.
func TestFewWrites(t *testing.T) {
	for _, n := range []int{0, 1, 5, 40, 300} {
		for _, form := range []string{"%03d", "%08d"} {
			r := rand.New(rand.NewSource(int64(n)))
			d := formatted(t, 400, 1)
			x := open(t, d)
			y := begin(t, x, true)
			for i := range n {
				change(t, y, fmt.Sprintf(form, i)+"=0123456789ab")
			}
			before := d.Writes()
			want(t, "P9: Commit", y.Commit(), api.OK)
			writes(t, d.Writes()-before, n)
			for i := range 200 {
				m := []int{1, 1, 0, 2, 3, 20}[i%6]
				y := begin(t, x, true)
				for range m {
					k := fmt.Sprintf(form, r.Intn(n+5))
					change(t, y, []string{k, k + "=", k + "=ba9876543210"}[r.Intn(3)])
				}
				before := d.Writes()
				want(t, "P9: Commit", y.Commit(), api.OK)
				writes(t, d.Writes()-before, m)
			}
		}
	}
}

// writes holds what a Commit of m changes wrote against P12.
func writes(t *testing.T, n int, m int) {
	t.Helper()
	if n > 12*m+2 || m == 0 && n > 0 {
		t.Fatalf("P12: a Commit of %d changes writes %d blocks", m, n)
	}
}

// recorded is a device that keeps the calls that were made of it.
type recorded struct {
	*api.Disk
	calls []string
}

func (d *recorded) Read(i int) ([]byte, error) {
	d.calls = append(d.calls, fmt.Sprint("read ", i))
	return d.Disk.Read(i)
}

func (d *recorded) Write(i int, b []byte) error {
	d.calls = append(d.calls, fmt.Sprint("write ", i, b))
	return d.Disk.Write(i, b)
}

func (d *recorded) Flush() error {
	d.calls = append(d.calls, "flush")
	return d.Disk.Flush()
}

// The same calls are answered alike, each time, to the calls of the device: in no order of a map.
func TestCommitsAlike(t *testing.T) {
	var first []string
	for i := range 20 {
		d := &recorded{Disk: formatted(t, 400, 1)}
		x := open(t, d)
		for j := range 12 {
			if j%2 == 0 && j/2 < api.MaxReads {
				begin(t, x, false)
			}
			commit(t, x, puts(strings.Repeat("v", j), keys(60)[j:60-j]...)...)
		}
		if i == 0 {
			first = d.calls
		}
		if !slices.Equal(first, d.calls) {
			t.Fatal("P2: of the same calls the device is asked otherwise")
		}
	}
}

// The head that leads to new nodes is written behind them all, and they are sure then. Ahead of them one is written over the older head, which may lead to what they are written over, and is sure, too.
func TestHeadsAndNodes(t *testing.T) {
	d := &recorded{Disk: formatted(t, 100, 1)}
	x := open(t, d)
	for i := range 4 {
		d.calls = nil
		older := int((x.committed.Number + 1) % head.Slots)
		commit(t, x, puts(fmt.Sprint(i), keys(30)...)...)
		var order []string
		for _, c := range d.calls {
			switch {
			case strings.HasPrefix(c, fmt.Sprintf("write %d ", older)):
				order = append(order, "older")
			case strings.HasPrefix(c, fmt.Sprintf("write %d ", 1-older)):
				order = append(order, "newer")
			case strings.HasPrefix(c, "write"):
				order = append(order, "nodes")
			case c == "flush":
				order = append(order, c)
			}
		}
		if s := strings.Join(slices.Compact(order), " "); s != "older flush nodes flush newer flush" {
			t.Errorf("P9, P13: Commit: %s", s)
		}
	}
}

// A device that uses its memory again, and that it was handed; and one that breaks down in a Commit.
func TestCommitOnStrangeDevices(t *testing.T) {
	d := &strange{Disk: formatted(t, 100, 1)}
	x := open(t, d)
	var s string
	for i := range 5 {
		s = commit(t, x, puts(fmt.Sprint(i), keys(40)...)...)
	}
	found(t, "a device that uses its memory again", d.After(nil), s)
	y := begin(t, x, true)
	c := cursor(t, y)
	change(t, y, "k020=x")
	d.panics = true
	want(t, "P1: Commit on a device that breaks down", y.Commit(), api.ErrIO)
	poisoned(t, x, y, c)
	found(t, "a device that broke down", d.Disk, s)
}

// Many goroutines write, each in its turn, and others read: each sees one and the same transaction's values in all keys, as long as it goes on.
func TestCommitsTogether(t *testing.T) {
	d := formatted(t, 400, 1)
	x := open(t, d)
	ks := keys(20)
	commit(t, x, puts("0", ks...)...)
	bad, done := make([]string, 8), make([]int, 8)
	var group sync.WaitGroup
	for g := range bad {
		group.Go(func() {
			for range 40 {
				y, err := patient(x, g%2 == 0)
				if err != nil {
					bad[g] = err.Error()
					return
				}
				if g%2 == 0 {
					bad[g] += one(y, ks)
					done[g]++
				} else {
					bad[g] += alike(y, len(ks)) + alike(y, len(ks))
					y.Commit()
				}
			}
		})
	}
	group.Wait()
	if s := strings.Join(bad, ""); s != "" {
		t.Errorf("P2, P5: %s", s)
	}
	n := fmt.Sprint(done[0] + done[2] + done[4] + done[6])
	if got := content(t, open(t, d.After(nil))); strings.Count(got, "="+n+" ") != len(ks) {
		t.Errorf("P2, P9: behind %s Commits: %s", n, got)
	}
}

// patient begins a transaction as soon as it is answered, if ever.
func patient(x *DB, write bool) (*Txn, error) {
	y, err := x.Begin(write)
	for range 1 << 20 {
		if told(err) != api.ErrBusy {
			break
		}
		runtime.Gosched()
		y, err = x.Begin(write)
	}
	return y, err
}

// one adds one to the value of all keys, and commits it.
func one(y *Txn, keys []string) string {
	var n int
	v, _, err := y.Get(keys[0])
	fmt.Sscan(v, &n)
	for _, k := range keys {
		if err == nil {
			err = y.Put(k, fmt.Sprint(n+1))
		}
	}
	if err == nil {
		err = y.Commit()
	}
	if err != nil {
		return err.Error()
	}
	return ""
}

// alike: have all keys the same value?
func alike(y *Txn, n int) string {
	l, err := all(y, "", last)
	if err != nil || len(l) != n {
		return fmt.Sprint(l, err)
	}
	for _, p := range l {
		if p.Value != l[0].Value {
			return fmt.Sprint(l)
		}
	}
	return ""
}
