package tests

import (
	"fmt"
	"maps"
	"math"
	"regexp"
	"slices"
	"strconv"
	"strings"
	"testing"
	"unsafe"

	"loop.example/comptoir/impl"
)

// doneFrom is entries with the times from one on.
func doneFrom(seq int, list ...impl.Entry) []impl.Entry {
	list = slices.Clone(list)
	for i := range list {
		list[i].Seq = seq + i
	}
	return list
}

// handFrame is FrameText of a batch that was done.
func handFrame(batch []impl.Entry) string {
	var body strings.Builder
	for _, e := range batch {
		fmt.Fprintf(&body, "%s %d %d %d %d %s", e.Key, e.Seq, e.Kind, e.N, len(e.Text), e.Text)
	}
	return fmt.Sprintf("%d %s\n", body.Len(), body.String())
}

// logOf is the frames of batches, one behind the other.
func logOf(batches ...[]impl.Entry) string {
	var log strings.Builder
	for _, batch := range batches {
		log.WriteString(handFrame(batch))
	}
	return log.String()
}

var (
	sizeForm  = regexp.MustCompile(`^[1-9][0-9]{0,5} `)
	entryForm = regexp.MustCompile(`^([a-z0-9/]{1,8}) ([1-9][0-9]{0,5}) ([123]) (0|-?[1-9][0-9]{0,6}) (0|[1-9][0-9]?) `)
)

// handBody is the entries of a body; none, if it is none.
func handBody(body string) []impl.Entry {
	var batch []impl.Entry
	for body != "" {
		m := entryForm.FindStringSubmatch(body)
		if m == nil {
			return nil
		}
		var n [6]int
		for i := 2; i < 6; i++ {
			n[i], _ = strconv.Atoi(m[i])
		}
		body = body[len(m[0]):]
		if n[5] > len(body) {
			return nil
		}
		e := impl.Entry{Key: m[1], Seq: n[2], Kind: n[3], N: n[4], Text: body[:n[5]]}
		body = body[n[5]:]
		if !impl.EntryOk(e) || len(batch) > 0 && batch[len(batch)-1].Seq+1 != e.Seq {
			return nil
		}
		batch = append(batch, e)
	}
	if len(batch) > 12 {
		return nil
	}
	return batch
}

// handRead is FrameRead, by the form of a frame.
func handRead(all string) (lots, int) {
	var batches lots
	for at := 0; ; {
		head := sizeForm.FindString(all[at:])
		size, _ := strconv.Atoi(strings.TrimSuffix(head, " "))
		end := at + len(head) + size
		if head == "" || end >= len(all) || all[end] != '\n' {
			return batches, at
		}
		batch := handBody(all[at+len(head) : end])
		if batch == nil {
			return batches, at
		}
		batches, at = append(batches, batch), end+1
	}
}

// handOpen is StoreOpen of a store that is not up, whatever it has.
func handOpen(s impl.Store) impl.Store {
	x := impl.Tree{Seq: s.Disk.Seq, Levels: s.Disk.Levels}
	batches, _ := handRead(s.Disk.Log)
	var beyond lots
	for _, batch := range batches {
		if batch[len(batch)-1].Seq > s.Disk.Seq {
			beyond = append(beyond, batch)
		}
	}
	var mem []impl.Entry
	for _, batch := range beyond {
		for _, e := range batch {
			if e.Seq > s.Disk.Seq {
				mem, x.Seq = append(mem, e), max(x.Seq, e.Seq)
			}
		}
	}
	x.Mem = handMerge(lots{mem})
	s.Up, s.Tree, s.Disk.Log = true, x, logOf(beyond...)
	s.Disk.Safe = len(s.Disk.Log)
	return s
}

// handStoreOk is StoreOk, of what handOpen gives.
func handStoreOk(s impl.Store) bool {
	d, x := s.Disk, s.Tree
	if len(d.Log) > 12000 || d.Safe < 0 || d.Safe > len(d.Log) || !handTreeOk(impl.Tree{Seq: d.Seq, Levels: d.Levels}) {
		return false
	}
	back := handOpen(impl.Store{Disk: d}).Tree
	if !s.Up {
		return x.Seq == 0 && len(x.Mem)+len(x.Levels)+len(x.Snaps) == 0 && handTreeOk(back)
	}
	if _, n := handRead(d.Log); n != len(d.Log) || len(x.Levels) != 3 || !handTreeOk(x) {
		return false
	}
	back.Snaps = x.Snaps
	return impl.TreeSame(x, back)
}

// handWrite is StoreWrite of a store that is ok.
func handWrite(s impl.Store, batch []impl.Entry) (impl.Store, bool) {
	if !s.Up || len(batch) < 1 || len(batch) > 12 || len(s.Tree.Mem)+len(batch) > 60 {
		return s, false
	}
	done := doneFrom(s.Tree.Seq+1, batch...)
	for i, e := range done {
		if batch[i].Seq != 0 || !impl.EntryOk(e) {
			return s, false
		}
	}
	log := s.Disk.Log + handFrame(done)
	if len(log) > 12000 {
		return s, false
	}
	s.Tree.Mem, s.Tree.Seq, s.Disk.Log = handMerge(lots{s.Tree.Mem, done}), done[len(done)-1].Seq, log
	return s, true
}

// handFlush is StoreFlush of a store that is ok.
func handFlush(s impl.Store) (impl.Store, bool) {
	if !s.Up || len(s.Tree.Mem) == 0 || len(s.Tree.Levels[0]) >= 4 {
		return s, false
	}
	first := append(slices.Clone(s.Tree.Levels[0]), handRun(handSquash(s.Tree.Mem, s.Tree.Snaps, false)))
	s.Tree.Levels = [][]impl.Run{first, s.Tree.Levels[1], s.Tree.Levels[2]}
	s.Tree.Mem = nil
	s.Disk = impl.Disk{Levels: s.Tree.Levels, Seq: s.Tree.Seq}
	return s, true
}

// handStoreCompact is StoreCompact of a store that is ok.
func handStoreCompact(s impl.Store, level int, pick int) (impl.Store, bool) {
	if !s.Up {
		return s, false
	}
	x, ok := handCompact(s.Tree, level, pick)
	s.Tree, s.Disk.Levels = x, x.Levels
	return s, ok
}

// handFall is StoreFall of a store that is ok.
func handFall(s impl.Store, keep int) impl.Store {
	if !s.Up {
		return s
	}
	if keep > len(s.Disk.Log) {
		keep = len(s.Disk.Log)
	}
	if keep < s.Disk.Safe {
		keep = s.Disk.Safe
	}
	s.Up, s.Tree, s.Disk.Log, s.Disk.Safe = false, impl.Tree{}, s.Disk.Log[:keep], keep
	return s
}

// handBreak is StoreBreak of a store that is ok.
func handBreak(s impl.Store, keep int) impl.Store {
	down := handFall(s, keep)
	if flat, ok := handFlush(s); ok {
		down.Disk.Levels, down.Disk.Seq = flat.Disk.Levels, flat.Disk.Seq
	}
	return down
}

// storeCall is a call that answers a store, and what it has to answer of one that is ok.
type storeCall struct {
	name string
	call func(s impl.Store) (impl.Store, bool)
	hand func(s impl.Store) (impl.Store, bool)
}

// storeCalls is all calls that answer a store.
func storeCalls(batch []impl.Entry, keep int, level int, pick int) []storeCall {
	alone := func(how func(s impl.Store) impl.Store) func(s impl.Store) (impl.Store, bool) {
		return func(s impl.Store) (impl.Store, bool) { return how(s), false }
	}
	return []storeCall{
		{"StoreWrite", func(s impl.Store) (impl.Store, bool) { return impl.StoreWrite(s, batch) },
			func(s impl.Store) (impl.Store, bool) { return handWrite(s, batch) }},
		{"StoreSync", alone(impl.StoreSync), alone(func(s impl.Store) impl.Store {
			if s.Up {
				s.Disk.Safe = len(s.Disk.Log)
			}
			return s
		})},
		{"StoreFlush", impl.StoreFlush, handFlush},
		{fmt.Sprint("StoreCompact ", level, " ", pick), func(s impl.Store) (impl.Store, bool) { return impl.StoreCompact(s, level, pick) },
			func(s impl.Store) (impl.Store, bool) { return handStoreCompact(s, level, pick) }},
		{fmt.Sprint("StoreFall ", keep), alone(func(s impl.Store) impl.Store { return impl.StoreFall(s, keep) }),
			alone(func(s impl.Store) impl.Store { return handFall(s, keep) })},
		{fmt.Sprint("StoreBreak ", keep), alone(func(s impl.Store) impl.Store { return impl.StoreBreak(s, keep) }),
			alone(func(s impl.Store) impl.Store { return handBreak(s, keep) })},
		{"StoreOpen", alone(impl.StoreOpen), alone(func(s impl.Store) impl.Store {
			if s.Up {
				return s
			}
			return handOpen(s)
		})},
	}
}

// answers holds what a call answers of any store against what is worked out by hand.
func (c storeCall) answers(t *testing.T, s impl.Store) (impl.Store, bool) {
	t.Helper()
	want, done := impl.Store{}, false
	if handStoreOk(s) {
		want, done = c.hand(s)
	}
	got, ok := c.call(s)
	if ok != done || !impl.StoreSame(got, want) {
		t.Fatalf("%s of %v: %v, %v, not %v, %v", c.name, s, got, ok, want, done)
	}
	if handStoreOk(s) && !impl.StoreOk(got) {
		t.Fatalf("%s of %v: %v is not ok", c.name, s, got)
	}
	return got, ok
}

// allAnswer asks a store in every way.
func allAnswer(t *testing.T, s impl.Store, batch []impl.Entry, keep int, level int, pick int) {
	t.Helper()
	if got, want := impl.StoreOk(s), handStoreOk(s); got != want {
		t.Fatalf("StoreOk of %v: %v", s, got)
	}
	for _, c := range storeCalls(batch, keep, level, pick) {
		c.answers(t, s)
	}
}

// okStore is a store that is ok.
func okStore(t *testing.T, s impl.Store) impl.Store {
	t.Helper()
	if !impl.StoreOk(s) || !handStoreOk(s) {
		t.Fatalf("%v is ok", s)
	}
	return s
}

// upWith is a store that is up, with a tree and batches beyond its runs, which are all that was done since a time.
func upWith(t *testing.T, x impl.Tree, seq int, batches ...[]impl.Entry) impl.Store {
	t.Helper()
	return okStore(t, impl.Store{Up: true, Tree: x, Disk: impl.Disk{Log: logOf(batches...), Levels: x.Levels, Seq: seq}})
}

// wrote is a store behind a batch.
func wrote(t *testing.T, s impl.Store, batch ...impl.Entry) impl.Store {
	t.Helper()
	s, ok := impl.StoreWrite(s, timeless(batch...))
	if !ok {
		t.Fatalf("%v is refused", batch)
	}
	return okStore(t, s)
}

// flushed is a store behind a flush.
func flushed(t *testing.T, s impl.Store) impl.Store {
	t.Helper()
	s, ok := impl.StoreFlush(s)
	if !ok {
		t.Fatalf("%v", s)
	}
	return okStore(t, s)
}

// storeKept says that something was refused, and gave the store as it was.
func storeKept(t *testing.T, was impl.Store) func(s impl.Store, ok bool) {
	return func(s impl.Store, ok bool) {
		t.Helper()
		if ok || !impl.StoreSame(s, was) {
			t.Errorf("%v, and %v, not %v", ok, s, was)
		}
	}
}

// oddTexts is texts that a reader may trip over.
var oddTexts = []string{
	"", " ", "\n", "x y", " x", "x ", "\n\n", "5\n", "\n24 a 1 1 -5 3 x yb 2 2 0 0 \n", "10 b 2 2 0 0 \n", "b 2 2 0 0 ", "-", "0", "\x00", "\xff\xfe", "é", "世", strings.Repeat("\n", 60), strings.Repeat("9 ", 30),
}

// oddBatches is batches that were done: of 1 entry to 12, with odd texts, numbers below 0 and the greatest.
func oddBatches() lots {
	all := lots{
		{put("a", 1, "x y", -5), del("b", 2)},
		{put("a", 1, "", 0)},
		{del("a", 100000)},
		{add("a", 99999, -1000000), add("zzzzzzzz", 100000, 1000000)},
		{put("//0/9/az", 9, "", 1000000), put("0", 10, "", -1000000), del("0", 11), add("0", 12, 0)},
		doneFrom(1, manyKeys(12)...),
		doneFrom(99989, manyKeys(12)...),
		doneFrom(95, manyKeys(11)...),
	}
	var full []impl.Entry
	for i, text := range oddTexts {
		all = append(all, []impl.Entry{put("k", 1+i, text, -1-i)}, []impl.Entry{put("k", 9, text, 7), del("1", 10), put("k", 11, text, 8)})
		full = append(full, put("keykey/"+string(rune('a'+i)), 0, text, i-4))
	}
	for from := range len(full) - 11 {
		all = append(all, doneFrom(99000+from, full[from:from+12]...))
	}
	return append(all, doneFrom(99989, slices.Repeat([]impl.Entry{put("longkeys", 0, strings.Repeat("t", 60), -1000000)}, 12)...))
}

func TestFrameText(t *testing.T) {
	for _, c := range []struct {
		batch []impl.Entry
		want  string
	}{
		{[]impl.Entry{put("a", 1, "", 0)}, "10 a 1 1 0 0 \n"},
		{[]impl.Entry{del("b", 2)}, "10 b 2 2 0 0 \n"},
		{[]impl.Entry{put("a", 1, "x y", -5), del("b", 2)}, "24 a 1 1 -5 3 x yb 2 2 0 0 \n"},
		{[]impl.Entry{add("b/cash/1", 99999, -1000000), add("zz", 100000, 1000000)}, "50 b/cash/1 99999 3 -1000000 0 zz 100000 3 1000000 0 \n"},
		{[]impl.Entry{put("k", 7, "\n", 12)}, "12 k 7 1 12 1 \n\n"},
		{[]impl.Entry{put("k", 7, " \n ", 1), put("k", 8, "é", 1)}, "25 k 7 1 1 3  \n k 8 1 1 2 é\n"},
	} {
		if got := impl.FrameText(c.batch); got != c.want || c.want != handFrame(c.batch) {
			t.Errorf("%v: %q, not %q", c.batch, got, c.want)
		}
	}
	for _, batch := range oddBatches() {
		if got := impl.FrameText(batch); got != handFrame(batch) {
			t.Errorf("%v: %q", batch, got)
		}
	}
}

func TestFrameTextOfWhatWasNotDone(t *testing.T) {
	none := func(batch ...impl.Entry) {
		t.Helper()
		if got := impl.FrameText(batch); got != "" {
			t.Errorf("%v: %q", batch, got)
		}
	}
	none()
	none([]impl.Entry{}...)
	for _, n := range []int{13, 14, 24, 1000} {
		none(doneFrom(1, manyKeys(n)...)...)
		none(doneFrom(99989, manyKeys(n)...)...)
	}
	a, b := put("a", 4, "", 1), put("c", 6, "", 1)
	for _, e := range wrongEntries() {
		none(e)
		none(a, e, b)
		none(e, b)
		none(put("a", e.Seq-1, "", 1), e)
		none(e, put("a", e.Seq+1, "", 1))
	}
	// Seqs that leave one out, stand still, or go back
	for _, seq := range []int{1, 2, 3, 4, 6, 7, 100000} {
		none(a, put("b", seq, "", 1))
		none(put("z", 3, "", 1), a, put("b", seq, "", 1))
	}
	none(a, put("a", 5, "", 1), put("a", 5, "", 1), put("a", 6, "", 1))
	none(a, put("a", 5, "", 1), put("a", 7, "", 1))
	none(put("a", 0, "", 1))
	none(put("a", 0, "", 1), put("a", 1, "", 1))
	none(put("a", 100000, "", 1), put("a", 100001, "", 1))
	none(put("a", math.MaxInt, "", 1), put("a", math.MinInt, "", 1))
}

// reads holds FrameRead of a text against the batches, and how many bytes, that are told.
func reads(t *testing.T, all string, want lots, size int) {
	t.Helper()
	got, n := impl.FrameRead(all)
	if n != size || !slices.EqualFunc(got, want, slices.Equal) {
		t.Fatalf("%.200q: %v, %d, not %v, %d", all, got, n, want, size)
	}
}

// Promise 9: what was done is read as it was.
func TestWhatWasDoneIsReadAsItWas(t *testing.T) {
	reads(t, "", nil, 0)
	all := oddBatches()
	for i, batch := range all {
		f := impl.FrameText(batch)
		reads(t, f, lots{batch}, len(f))
		reads(t, f+f, lots{batch, batch}, 2*len(f))
		reads(t, impl.FrameText(all[0])+f+impl.FrameText(all[(i+1)%len(all)]), lots{all[0], batch, all[(i+1)%len(all)]}, len(impl.FrameText(all[0])+f+impl.FrameText(all[(i+1)%len(all)])))
	}
	log := logOf(all...)
	reads(t, log, all, len(log))
	if got, n := handRead(log); n != len(log) || !slices.EqualFunc(got, all, slices.Equal) {
		t.Errorf("by hand %v", got)
	}
	// a text may have more bytes than a log
	long := strings.Repeat(log, 20)
	reads(t, long, slices.Repeat(all, 20), len(long))
	reads(t, long+"1", slices.Repeat(all, 20), len(long))
	// of the times of two batches nothing is asked
	for _, two := range []lots{{{put("a", 5, "", 1)}, {put("a", 5, "", 2)}}, {{put("a", 5, "", 1)}, {put("a", 4, "", 2)}}, {{put("a", 5, "", 1)}, {put("a", 9, "", 2)}}} {
		reads(t, logOf(two...), two, len(logOf(two...)))
	}
}

// Promise 9: as far as it is whole, wherever it is cut.
func TestALogIsReadAsFarAsItIsWhole(t *testing.T) {
	all := oddBatches()
	for from := 0; from+5 <= len(all); from += 3 {
		log, whole, size, next := logOf(all[from:from+5]...), lots(nil), 0, from
		for cut := range len(log) + 1 {
			if f := handFrame(all[next%len(all)]); cut == size+len(f) {
				whole, size, next = append(whole, all[next]), cut, next+1
			}
			reads(t, log[:cut], whole, size)
		}
		if len(whole) != 5 {
			t.Errorf("%d", len(whole))
		}
	}
}

func TestFrameReadOfWhatIsBent(t *testing.T) {
	first, a := []impl.Entry{put("f", 3, "x", 1)}, handFrame([]impl.Entry{put("f", 3, "x", 1)})
	good := "24 a 1 1 -5 3 x yb 2 2 0 0 \n"
	for _, bad := range []string{
		// a bent length
		"23 a 1 1 -5 3 x yb 2 2 0 0 \n", "25 a 1 1 -5 3 x yb 2 2 0 0 \n", "2 a 1 1 -5 3 x yb 2 2 0 0 \n", "0 a 1 1 -5 3 x yb 2 2 0 0 \n", "14 a 1 1 -5 3 x yb 2 2 0 0 \n",
		"240 a 1 1 -5 3 x yb 2 2 0 0 \n", "-24 a 1 1 -5 3 x yb 2 2 0 0 \n", "+24 a 1 1 -5 3 x yb 2 2 0 0 \n", "024 a 1 1 -5 3 x yb 2 2 0 0 \n", " 24 a 1 1 -5 3 x yb 2 2 0 0 \n",
		"24  a 1 1 -5 3 x yb 2 2 0 0 \n", "24a 1 1 -5 3 x yb 2 2 0 0 \n", "0x18 a 1 1 -5 3 x yb 2 2 0 0 \n", "2_4 a 1 1 -5 3 x yb 2 2 0 0 \n", " a 1 1 -5 3 x yb 2 2 0 0 \n",
		"9223372036854775807 a 1 1 -5 3 x yb 2 2 0 0 \n", "-9223372036854775808 a 1 1 -5 3 x yb 2 2 0 0 \n", "18446744073709551640 a 1 1 -5 3 x yb 2 2 0 0 \n", "99999999999999999999999 a\n",
		// a missing newline, or another sign in its place
		"24 a 1 1 -5 3 x yb 2 2 0 0 ", "24 a 1 1 -5 3 x yb 2 2 0 0 \r", "24 a 1 1 -5 3 x yb 2 2 0 0 \r\n", "24 a 1 1 -5 3 x yb 2 2 0 0  \n", "24 a 1 1 -5 3 x yb 2 2 0 0 0",
		// numbers that FrameText would not write
		"25 a 01 1 -5 3 x yb 2 2 0 0 \n", "25 a +1 1 -5 3 x yb 2 2 0 0 \n", "25 a 1 01 -5 3 x yb 2 2 0 0 \n", "25 a 1 +1 -5 3 x yb 2 2 0 0 \n", "25 a 1 1 -05 3 x yb 2 2 0 0 \n",
		"25 a 1 1 -5 03 x yb 2 2 0 0 \n", "25 a 1 1 -5 +3 x yb 2 2 0 0 \n", "25 a 1 1 -5 3 x yb 2 2 -0 0 \n", "25 a 1 1 -5 3 x yb 2 2 00 0 \n", "25 a 1 1 -5 3 x yb 2 2 +0 0 \n", "25 a 1 1 -5 3 x yb 2 2 0 -0 \n", "25 a 1 1 -5 3 x yb 2 2 0 00 \n",
		"24 a 1 1 +5 3 x yb 2 2 0 0 \n", "24 a 1 1 05 3 x yb 2 2 0 0 \n",
		// spaces
		"25 a  1 1 -5 3 x yb 2 2 0 0 \n", "25  a 1 1 -5 3 x yb 2 2 0 0 \n", "25 a 1 1 -5 3 x y b 2 2 0 0 \n", "24 a 1\t1 -5 3 x yb 2 2 0 0 \n", "23 a 1 1 -5 3 x yb 2 2 0 0\n",
		// how many bytes a text has
		"24 a 1 1 -5 1 x yb 2 2 0 0 \n", "24 a 1 1 -5 4 x yb 2 2 0 0 \n", "24 a 1 1 -5 9 x yb 2 2 0 0 \n", "24 a 1 1 -5 3 x yb 2 2 0 1 \n", "25 a 1 1 -5 -3 x yb 2 2 0 0 \n", "15 a 1 1 -5 3 x y\n", "12 a 1 1 -5 2 x\n", "13 a 1 1 -5 1 x\n",
		"11 b 2 2 0 61 \n", "29 b 2 2 0 9223372036854775807 \n", "30 b 2 2 0 -9223372036854775808 \n", "30 b 2 2 0 18446744073709551616 \n", "10 a 1 1 0 1 \n", "9 a 1 1 0 1\n",
		// entries that are not ok
		"24 A 1 1 -5 3 x yb 2 2 0 0 \n", "24 a 1 2 -5 3 x yb 2 2 0 0 \n", "24 a 1 3 -5 3 x yb 2 2 0 0 \n", "24 a 1 4 -5 3 x yb 2 2 0 0 \n", "24 a 1 0 -5 3 x yb 2 2 0 0 \n", "24 a 0 1 -5 3 x yb 1 2 0 0 \n", "24 a 1 1 -5 3 x yb 2 2 1 0 \n",
		"10 b 0 2 0 0 \n", "11 b -1 2 0 0 \n", "15 b 100001 2 0 0 \n", "9  2 2 0 0 \n", "18 bbbbbbbbb 2 2 0 0 \n", "16 b 2 3 1000001 0 \n", "17 b 2 3 -1000001 0 \n", "72 b 2 1 0 61 " + strings.Repeat("t", 61) + "\n", "12 b\n 2 2 0 0 \n", "11 b: 2 2 0 0 \n",
		// Seqs that leave one out, stand still, or go back, within a batch
		"24 a 1 1 -5 3 x yb 3 2 0 0 \n", "24 a 1 1 -5 3 x yb 1 2 0 0 \n", "24 a 2 1 -5 3 x yb 1 2 0 0 \n", "30 b 1 2 0 0 b 2 2 0 0 b 4 2 0 0 \n",
		// no entries, and more than 12
		"0 \n", "0\n", "\n", " \n", handFrame(doneFrom(1, manyKeys(13)...)), handFrame(doneFrom(1, manyKeys(14)...)), handFrame(doneFrom(1, manyKeys(500)...)),
		// something else
		"x", "24", "24 ", "0", "-", "24\n", "a 1 1 -5 3 x y", "\x00", "\xff", strings.Repeat(" ", 50), strings.Repeat("9", 50), strings.Repeat("1 ", 50), strings.Repeat("\n", 50),
	} {
		reads(t, bad, nil, 0)
		reads(t, bad+good, nil, 0)
		reads(t, a+bad, lots{first}, len(a))
		reads(t, a+a+bad+good+a, lots{first, first}, 2*len(a))
		if got, n := handRead(a + bad + good); n != len(a) {
			t.Errorf("by hand %q: %v", bad, got)
		}
	}
	for _, e := range wrongEntries() {
		reads(t, handFrame([]impl.Entry{e}), nil, 0)
	}
}

// A text near to a log is read just as far as it is one.
func TestFrameReadOfTextsNearby(t *testing.T) {
	all := oddBatches()
	for _, log := range []string{
		logOf([]impl.Entry{put("a", 1, "x y", -5), del("b", 2)}, []impl.Entry{add("a", 3, 10)}, []impl.Entry{put("b/a/1", 4, "\n", 100)}),
		logOf(all[4], all[14], all[2], all[18]),
		logOf(all[9], all[11], all[21]),
	} {
		near := func(text string) {
			t.Helper()
			want, size := handRead(text)
			reads(t, text, want, size)
		}
		for at := range len(log) {
			near(log[:at] + log[at+1:])
			near(log[:at] + log[at:at+1] + log[at:])
			near(log[at:])
			for _, c := range "09123 -+\n/ab\x00" {
				near(log[:at] + string(c) + log[at+1:])
				near(log[:at] + string(c) + log[at:])
			}
		}
	}
}

func TestStoreNew(t *testing.T) {
	s := okStore(t, impl.StoreNew())
	if !s.Up || !impl.TreeSame(s.Tree, impl.TreeNew()) || s.Disk.Log != "" || s.Disk.Safe != 0 || len(s.Disk.Levels) != 3 || s.Disk.Seq != 0 {
		t.Fatalf("%v", s)
	}
	for _, runs := range s.Disk.Levels {
		if len(runs) != 0 {
			t.Fatalf("%v", s)
		}
	}
	storeKept(t, s)(impl.StoreFlush(s))
	storeKept(t, s)(impl.StoreCompact(s, 0, 0))
	storeKept(t, s)(impl.StoreSync(s), false)
	storeKept(t, s)(impl.StoreOpen(s), false)
	storeKept(t, s)(impl.StoreOpen(impl.StoreFall(s, 5)), false)
	storeKept(t, s)(impl.StoreOpen(impl.StoreBreak(s, 5)), false)
	s.Tree.Seq, s.Disk.Levels[0] = 5, append(s.Disk.Levels[0], impl.Run{})
	if x := impl.StoreNew(); x.Tree.Seq != 0 || len(x.Disk.Levels[0]) != 0 || len(x.Tree.Levels[0]) != 0 {
		t.Errorf("%v", x)
	}
}

func TestStoreWriteAndSync(t *testing.T) {
	s := wrote(t, impl.StoreNew(), put("b", 0, "x\ny", -5), del("a", 0))
	if s.Disk.Log != "24 b 1 1 -5 3 x\nya 2 2 0 0 \n" || s.Disk.Safe != 0 || s.Disk.Seq != 0 || s.Tree.Seq != 2 || !slices.Equal(s.Tree.Mem, []impl.Entry{del("a", 2), put("b", 1, "x\ny", -5)}) {
		t.Fatalf("%v", s)
	}
	s = wrote(t, s, add("b", 0, 7))
	if s.Disk.Log != "24 b 1 1 -5 3 x\nya 2 2 0 0 \n10 b 3 3 7 0 \n" || s.Disk.Safe != 0 || s.Tree.Seq != 3 || len(s.Tree.Mem) != 3 {
		t.Fatalf("%v", s)
	}
	safe := okStore(t, impl.StoreSync(s))
	s.Disk.Safe = 42
	storeKept(t, s)(safe, false)
	storeKept(t, s)(impl.StoreSync(safe), false)
	s = wrote(t, s, del("b", 0))
	if s.Disk.Safe != 42 || len(s.Disk.Log) != 56 {
		t.Fatalf("%v", s)
	}
	// one that is not up
	down := okStore(t, impl.StoreFall(s, 50))
	storeKept(t, down)(impl.StoreSync(down), false)
	storeKept(t, down)(impl.StoreWrite(down, timeless(del("b", 0))))
	storeKept(t, down)(impl.StoreFlush(down))
	storeKept(t, down)(impl.StoreCompact(down, 0, 0))
}

func TestStoreWriteUpToItsBounds(t *testing.T) {
	s := impl.StoreNew()
	for _, n := range []int{0, 13, 14, 60, 61, 1000} {
		storeKept(t, s)(impl.StoreWrite(s, manyKeys(n)))
	}
	storeKept(t, s)(impl.StoreWrite(s, []impl.Entry{}))
	if x := wrote(t, s, manyKeys(1)...); x.Tree.Seq != 1 || x.Disk.Log != "14 w000 1 1 0 1 t\n" {
		t.Errorf("%v", x)
	}
	for i := range 5 {
		s = wrote(t, s, manyKeys(12)...)
		if batches, n := handRead(s.Disk.Log); len(batches) != i+1 || n != len(s.Disk.Log) || len(s.Tree.Mem) != 12*(i+1) {
			t.Fatalf("%v", s)
		}
	}
	storeKept(t, s)(impl.StoreWrite(s, manyKeys(1)))
	s = flushed(t, s)
	a, c := put("a", 0, "", 1), put("c", 0, "", 1)
	for _, e := range append(wrongEntries(), put("b", 61, "", 1), put("b", 1, "", 1), put("b", -1, "", 1)) {
		if e.Seq == 0 && impl.EntryOk(put(e.Key, 1, e.Text, e.N)) && e.Kind == impl.EntPut {
			continue // it was its Seq alone that was wrong
		}
		storeKept(t, s)(impl.StoreWrite(s, []impl.Entry{e}))
		storeKept(t, s)(impl.StoreWrite(s, []impl.Entry{a, e, c}))
		storeKept(t, s)(impl.StoreWrite(s, []impl.Entry{a, c, e}))
	}
	// the last time
	s.Tree.Seq, s.Disk.Seq = 99990, 99990
	storeKept(t, s)(impl.StoreWrite(s, manyKeys(11)))
	if x := wrote(t, s, manyKeys(10)...); x.Tree.Seq != 100000 {
		t.Errorf("%v", x)
	}
}

func TestStoreFlushAndCompact(t *testing.T) {
	s := wrote(t, impl.StoreNew(), add("a", 0, 1), add("b", 0, 2), add("a", 0, 4))
	s = impl.StoreSync(s)
	s = wrote(t, s, put("c", 0, "t", 1))
	s = flushed(t, s)
	levelsAre(t, s.Tree, lots{{add("a", 3, 5), add("b", 2, 2), put("c", 4, "t", 1)}}, nil, nil)
	if s.Disk.Log != "" || s.Disk.Safe != 0 || s.Disk.Seq != 4 || s.Tree.Seq != 4 || len(s.Tree.Mem) != 0 || !slices.EqualFunc(s.Disk.Levels[0], s.Tree.Levels[0], impl.RunSame) {
		t.Fatalf("%v", s)
	}
	storeKept(t, s)(impl.StoreFlush(s)) // there is nothing to be flushed
	s = impl.StoreSync(wrote(t, s, del("a", 0)))
	s = wrote(t, s, del("b", 0))
	was := s
	s, ok := impl.StoreCompact(s, 0, 0)
	if !ok || s.Disk.Log != was.Disk.Log || s.Disk.Safe != 14 || s.Disk.Seq != 4 || s.Tree.Seq != 6 || !slices.Equal(s.Tree.Mem, was.Tree.Mem) {
		t.Fatalf("%v", s)
	}
	levelsAre(t, okStore(t, s).Tree, nil, lots{{put("a", 3, "", 5), put("b", 2, "", 2), put("c", 4, "t", 1)}}, nil)
	if len(s.Disk.Levels[0]) != 0 || !impl.RunSame(s.Disk.Levels[1][0], s.Tree.Levels[1][0]) {
		t.Fatalf("%v", s)
	}
	for _, level := range []int{-1, 0, 2, 3, math.MinInt, math.MaxInt} {
		storeKept(t, s)(impl.StoreCompact(s, level, 0))
	}
	for _, pick := range []int{-1, 1, 2, math.MinInt, math.MaxInt} {
		storeKept(t, s)(impl.StoreCompact(s, 1, pick))
	}
	s, ok = impl.StoreCompact(s, 1, 0)
	if !ok || len(s.Disk.Levels[1]) != 0 || len(s.Disk.Levels[2]) != 1 {
		t.Fatalf("%v", s)
	}
	// four runs on the first level, and no more
	for range 4 {
		s = flushed(t, wrote(t, s, add("d", 0, 1)))
	}
	s = wrote(t, s, add("d", 0, 1))
	storeKept(t, s)(impl.StoreFlush(s))
	s, ok = impl.StoreCompact(s, 0, 0)
	if s = flushed(t, s); !ok || len(s.Disk.Levels[0]) != 1 {
		t.Errorf("%v", s)
	}
}

// A flush and a compaction heed the times that a store's tree keeps, which are gone behind a fall.
func TestAStoreWithTimesThatAreKept(t *testing.T) {
	s := wrote(t, impl.StoreNew(), add("a", 0, 1))
	s.Tree = fine(t)(impl.TreeSnap(s.Tree))
	s = wrote(t, okStore(t, s), add("a", 0, 1))
	s = impl.StoreSync(s)
	for _, c := range storeCalls(timeless(del("a", 0)), 3, 0, 0) {
		c.answers(t, s)
	}
	flat := flushed(t, s)
	levelsAre(t, flat.Tree, lots{{add("a", 2, 1), add("a", 1, 1)}})
	if !slices.Equal(flat.Tree.Snaps, []int{1}) {
		t.Errorf("%v", flat)
	}
	deep, ok := impl.StoreCompact(flat, 0, 0)
	if levelsAre(t, deep.Tree, nil, lots{{add("a", 2, 1), put("a", 1, "", 1)}}); !ok {
		t.Errorf("%v", deep)
	}
	broken := okStore(t, impl.StoreBreak(s, 0))
	levelsAre(t, impl.Tree{Levels: broken.Disk.Levels}, lots{{add("a", 2, 1), add("a", 1, 1)}})
	for _, down := range []impl.Store{broken, impl.StoreFall(s, 0), impl.StoreFall(flat, 0), impl.StoreFall(deep, 0)} {
		x := okStore(t, impl.StoreOpen(down))
		if len(x.Tree.Snaps) != 0 || x.Tree.Seq != 2 || impl.TreeCell(x.Tree, "a", 2) != has("", 2) {
			t.Errorf("%v", x)
		}
	}
}

func TestStoreFallKeepsWhatIsSafe(t *testing.T) {
	s := wrote(t, impl.StoreNew(), put("a", 0, "one", 1))
	s = impl.StoreSync(s)
	s = wrote(t, s, put("a", 0, "two", 2), put("b", 0, "2\n", 2))
	s = wrote(t, s, put("a", 0, "three", 3))
	log, safe := s.Disk.Log, s.Disk.Safe
	ends := []int{safe, strings.Index(log, "15 a 4"), len(log)}
	if safe != 17 || ends[1] < 0 {
		t.Fatalf("%q", log)
	}
	keeps := []int{math.MinInt, -1, 0, 1, safe - 1, len(log) + 1, 12000, 12001, math.MaxInt}
	for keep := range len(log) + 1 {
		keeps = append(keeps, keep)
	}
	for _, keep := range keeps {
		left := max(safe, min(keep, len(log)))
		down := okStore(t, impl.StoreFall(s, keep))
		if down.Up || !impl.TreeSame(down.Tree, impl.Tree{}) || down.Disk.Log != log[:left] || down.Disk.Safe != left || down.Disk.Seq != 0 || len(down.Disk.Levels) != 3 {
			t.Fatalf("%d: %v", keep, down)
		}
		// one that is not up falls no more, nor does it do anything else, until it is opened
		for _, again := range keeps {
			storeKept(t, down)(impl.StoreFall(down, again), false)
			storeKept(t, down)(impl.StoreBreak(down, again), false)
		}
		storeKept(t, down)(impl.StoreSync(down), false)
		x := okStore(t, impl.StoreOpen(down))
		n := 0
		for n < 2 && ends[n+1] <= left {
			n++
		}
		if !x.Up || x.Disk.Log != log[:ends[n]] || x.Disk.Safe != ends[n] || x.Tree.Seq != []int{1, 3, 4}[n] || impl.TreeCell(x.Tree, "a", 9) != []impl.Cell{has("one", 1), has("two", 2), has("three", 3)}[n] {
			t.Fatalf("%d: %v", keep, x)
		}
		storeKept(t, x)(impl.StoreOpen(x), false)
		// what is written behind it is there behind the next fall, as far as it is kept
		y := wrote(t, x, add("a", 0, 10))
		z := okStore(t, impl.StoreOpen(impl.StoreFall(y, len(y.Disk.Log))))
		if z.Tree.Seq != x.Tree.Seq+1 || impl.TreeCell(z.Tree, "a", 9).N != 11+n {
			t.Fatalf("%d: %v", keep, z)
		}
		storeKept(t, x)(impl.StoreOpen(impl.StoreFall(y, 0)), false)
	}
	// Safe at 0, and at all of the log
	bare := s
	bare.Disk.Safe = 0
	if down := okStore(t, impl.StoreFall(bare, 0)); down.Disk.Log != "" || !impl.StoreSame(impl.StoreOpen(down), impl.StoreNew()) {
		t.Errorf("%v", down)
	}
	all := impl.StoreSync(s)
	for _, keep := range keeps {
		if down := impl.StoreFall(all, keep); down.Disk.Log != log || down.Disk.Safe != len(log) {
			t.Errorf("%v", down)
		}
		storeKept(t, all)(impl.StoreOpen(impl.StoreFall(all, keep)), false)
	}
}

// A fall in a flush, with the log cut at each of its bytes, and what is written behind it.
func TestStoreBreak(t *testing.T) {
	s := wrote(t, impl.StoreNew(), put("a", 0, "one", 1), add("b", 0, 5))
	s = flushed(t, s)
	s = impl.StoreSync(wrote(t, s, add("a", 0, 10)))
	s = wrote(t, s, add("a", 0, 100), add("b", 0, 50))
	s = wrote(t, s, del("b", 0))
	log, safe := s.Disk.Log, s.Disk.Safe
	flat := flushed(t, s)
	for keep := -1; keep <= len(log)+1; keep++ {
		left := max(safe, min(keep, len(log)))
		down := okStore(t, impl.StoreBreak(s, keep))
		if down.Up || !impl.TreeSame(down.Tree, impl.Tree{}) || down.Disk.Log != log[:left] || down.Disk.Safe != left || down.Disk.Seq != 6 || len(down.Disk.Levels[0]) != 2 || !impl.RunSame(down.Disk.Levels[0][1], flat.Disk.Levels[0][1]) {
			t.Fatalf("%d: %v", keep, down)
		}
		x := okStore(t, impl.StoreOpen(down))
		storeKept(t, flat)(x, false) // as if it had not fallen
		storeKept(t, x)(impl.StoreOpen(x), false)
		// written behind that, and fallen again, in a flush too
		y := wrote(t, x, add("a", 0, 1000), put("b", 0, "new", 3))
		if y.Tree.Seq != 8 || y.Disk.Log != logOf([]impl.Entry{add("a", 7, 1000), put("b", 8, "new", 3)}) || y.Disk.Safe != 0 {
			t.Fatalf("%d: %v", keep, y)
		}
		for again := range len(y.Disk.Log) + 1 {
			z := okStore(t, impl.StoreOpen(impl.StoreFall(y, again)))
			if again < len(y.Disk.Log) {
				storeKept(t, x)(z, false)
			} else if impl.TreeCell(z.Tree, "a", 8) != has("one", 1111) || impl.TreeCell(z.Tree, "b", 8) != has("new", 3) || z.Tree.Seq != 8 {
				t.Fatalf("%d: %v", keep, z)
			}
			z = okStore(t, impl.StoreOpen(impl.StoreBreak(y, again)))
			if impl.TreeCell(z.Tree, "a", 8) != has("one", 1111) || impl.TreeCell(z.Tree, "b", 8) != has("new", 3) || z.Tree.Seq != 8 || z.Disk.Log != "" || len(z.Tree.Mem) != 0 || len(z.Tree.Levels[0]) != 3 {
				t.Fatalf("%d: %v", keep, z)
			}
		}
	}
}

// A fall in a flush that would be refused is one as any.
func TestStoreBreakInAFlushThatIsRefused(t *testing.T) {
	full := impl.StoreNew()
	for range 4 {
		full = flushed(t, wrote(t, full, add("a", 0, 1)))
	}
	bare := full
	full = impl.StoreSync(wrote(t, full, add("a", 0, 1)))
	full = wrote(t, full, add("a", 0, 1), add("b", 0, 1))
	old := impl.StoreNew() // of its log all is in the runs, so there is nothing to flush
	old.Tree.Seq, old.Disk.Seq, old.Disk.Log = 9, 9, logOf([]impl.Entry{add("a", 4, 1), add("a", 5, 1)}, []impl.Entry{del("a", 6)})
	for name, s := range map[string]impl.Store{"four runs": full, "nothing": impl.StoreNew(), "four runs, and nothing beyond": bare, "nothing beyond": okStore(t, old)} {
		storeKept(t, s)(impl.StoreFlush(s))
		for keep := -1; keep <= len(s.Disk.Log)+1; keep++ {
			down, same := impl.StoreBreak(s, keep), impl.StoreFall(s, keep)
			if !impl.StoreSame(down, same) || down.Up || down.Disk.Seq != s.Disk.Seq || len(down.Disk.Levels[0]) != len(s.Disk.Levels[0]) {
				t.Errorf("%s, %d: %v, not %v", name, keep, down, same)
			}
			if x := okStore(t, impl.StoreOpen(down)); x.Tree.Seq < s.Disk.Seq {
				t.Errorf("%s, %d: %v", name, keep, x)
			}
		}
	}
	x := impl.StoreOpen(impl.StoreBreak(full, 20))
	if x.Tree.Seq != 5 || impl.TreeCell(x.Tree, "a", 9) != has("", 5) || len(x.Tree.Levels[0]) != 4 || len(x.Tree.Mem) != 1 {
		t.Errorf("%v", x)
	}
}

// Of a batch some entries may be in the runs already, and some not: it stays in the log as it is, and none is done twice.
func TestABatchThatIsInTheRunsInPart(t *testing.T) {
	x := treeOf(t, 5, nil, nil, lots{{put("a", 4, "", 4), add("b", 5, 5)}})
	old := []impl.Entry{put("a", 1, "", 1), put("b", 2, "", 2)}
	part := []impl.Entry{put("a", 4, "", 4), add("b", 5, 5), add("a", 6, 60), add("b", 7, 70)}
	late := []impl.Entry{del("c", 8)}
	down := okStore(t, impl.Store{Disk: impl.Disk{Log: logOf(old, part, old, late) + "10 a", Safe: 3, Levels: x.Levels, Seq: 5}})
	s := okStore(t, impl.StoreOpen(down))
	want := treeOf(t, 8, []impl.Entry{add("a", 6, 60), add("b", 7, 70), del("c", 8)}, nil, lotsOf(x, 0)[:0], nil, nil)
	want.Levels = x.Levels
	if !impl.TreeSame(s.Tree, want) || s.Disk.Log != logOf(part, late) || s.Disk.Safe != len(s.Disk.Log) || s.Disk.Seq != 5 {
		t.Fatalf("%v", s)
	}
	if impl.TreeCell(s.Tree, "a", 8) != has("", 64) || impl.TreeCell(s.Tree, "b", 8) != has("", 75) {
		t.Errorf("%v", s)
	}
	storeKept(t, s)(impl.StoreOpen(impl.StoreFall(s, 0)), false)
	s = wrote(t, s, add("a", 0, 100))
	s = okStore(t, impl.StoreOpen(impl.StoreFall(s, 999)))
	if s.Tree.Seq != 9 || impl.TreeCell(s.Tree, "a", 9) != has("", 164) {
		t.Errorf("%v", s)
	}
	for seq := range 10 {
		edge := impl.Store{Disk: impl.Disk{Log: logOf(part), Levels: impl.TreeNew().Levels, Seq: seq}}
		allAnswer(t, edge, timeless(add("a", 0, 1)), 5, 0, 0)
		up := okStore(t, impl.StoreOpen(edge))
		if n := min(4, max(0, 7-seq)); len(up.Tree.Mem) != n || (up.Disk.Log == "") != (n == 0) || up.Tree.Seq != max(7, seq) {
			t.Errorf("%d: %v", seq, up)
		}
	}
}

// oldLog is a log of just so many bytes, of batches of the time 1 alone.
func oldLog(t *testing.T, size int) string {
	t.Helper()
	frames := map[int]string{}
	for n := range 61 {
		f := logOf([]impl.Entry{put("a", 1, strings.Repeat("\n", n), 0)})
		frames[len(f)] = f
	}
	log := strings.Repeat(frames[75], max(0, size/75-1))
	for n, f := range frames {
		if rest := frames[size-len(log)-n]; rest != "" {
			return log + f + rest
		}
	}
	t.Fatalf("no log of %d bytes", size)
	return ""
}

func TestALogOf12000BytesAndOneMore(t *testing.T) {
	with := func(log string) impl.Store {
		x := impl.StoreNew()
		x.Tree.Seq, x.Disk.Seq, x.Disk.Log = 50, 50, log
		return x
	}
	frame := len(logOf([]impl.Entry{put("a", 51, "text", 7)}))
	for _, size := range []int{11990, 11999, 12000, 12001, 12002, 20000} {
		s := with(oldLog(t, size))
		down := impl.Store{Disk: s.Disk}
		rough := impl.Store{Disk: impl.Disk{Log: strings.Repeat("x", size), Levels: s.Disk.Levels}}
		for _, safe := range []int{0, 1, 11990, size - 1, size} {
			s.Disk.Safe, down.Disk.Safe, rough.Disk.Safe = safe, safe, safe
			for _, x := range []impl.Store{s, down, rough} {
				if got := impl.StoreOk(x); got != (size <= 12000) {
					t.Errorf("a log of %d bytes, %v: %v", size, x.Up, got)
				}
				allAnswer(t, x, timeless(add("a", 0, 1)), 11995, 0, 0)
			}
		}
		if got := impl.StoreOpen(rough); size <= 12000 && !impl.StoreSame(got, impl.StoreNew()) {
			t.Errorf("%v", got)
		}
		// what is written to it
		batch := timeless(put("a", 0, "text", 7))
		near := with(oldLog(t, size-frame))
		x, ok := impl.StoreWrite(near, batch)
		if ok != (size <= 12000) || ok && (len(x.Disk.Log) != size || x.Tree.Seq != 51 || !impl.StoreOk(x)) {
			t.Errorf("%d bytes: %v", size, ok)
		}
		if !ok && size-frame <= 12000 {
			storeKept(t, near)(x, ok)
		}
	}
	// a full log is emptied by a flush, and by being opened
	s := with(oldLog(t, 12000-frame))
	s = wrote(t, s, put("a", 0, "text", 7))
	storeKept(t, s)(impl.StoreWrite(s, timeless(del("a", 0))))
	if x := okStore(t, impl.StoreOpen(impl.StoreFall(s, 12000))); len(x.Disk.Log) != frame || x.Tree.Seq != 51 {
		t.Errorf("%v", x)
	}
	if x := wrote(t, flushed(t, s), del("a", 0)); x.Tree.Seq != 52 || x.Disk.Log != "11 a 52 2 0 0 \n" {
		t.Errorf("%v", x)
	}
	// the greatest log that writing alone can make
	s = impl.StoreNew()
	s.Tree.Seq, s.Disk.Seq = 99940, 99940
	for range 60 {
		s = wrote(t, s, put("longkeys", 0, strings.Repeat("\n", 60), -1000000))
	}
	storeKept(t, s)(impl.StoreWrite(s, timeless(del("a", 0))))
	if s.Tree.Seq != 100000 || !impl.StoreSame(impl.StoreOpen(impl.StoreFall(impl.StoreSync(s), 0)), impl.StoreSync(s)) {
		t.Errorf("%v", s)
	}
}

// turnedStores is a store that is up and ok, turned in one way each. Some of these are ok too.
func turnedStores(s impl.Store) map[string]impl.Store {
	all := map[string]impl.Store{"as it is": s}
	but := func(name string, how func(s *impl.Store)) {
		x := s
		x.Tree, x.Disk.Levels = copyTree(s.Tree), copyTree(impl.Tree{Levels: s.Disk.Levels}).Levels
		how(&x)
		all[name] = x
		y := impl.Store{Disk: x.Disk}
		all[name+", not up"] = y
	}
	batches, _ := handRead(s.Disk.Log)
	but("the same", func(s *impl.Store) {})
	but("up flipped", func(s *impl.Store) { s.Up = false })
	but("no tree", func(s *impl.Store) { s.Tree = impl.Tree{} })
	but("a new tree", func(s *impl.Store) { s.Tree = impl.TreeNew() })
	for _, seq := range []int{-1, 0, 1, s.Tree.Seq - 1, s.Tree.Seq + 1, s.Disk.Seq - 1, s.Disk.Seq, s.Disk.Seq + 1, s.Tree.Seq, 100000, 100001, math.MinInt, math.MaxInt} {
		but(fmt.Sprint("tree's seq ", seq), func(s *impl.Store) { s.Tree.Seq = seq })
		but(fmt.Sprint("disk's seq ", seq), func(s *impl.Store) { s.Disk.Seq = seq })
		but(fmt.Sprint("both seqs ", seq), func(s *impl.Store) { s.Tree.Seq, s.Disk.Seq = seq, seq })
	}
	for _, safe := range []int{-1, 0, 1, len(s.Disk.Log) - 1, len(s.Disk.Log), len(s.Disk.Log) + 1, 12000, math.MinInt, math.MaxInt} {
		but(fmt.Sprint("safe ", safe), func(s *impl.Store) { s.Disk.Safe = safe })
	}
	log := func(name string, text string) {
		but(name, func(s *impl.Store) { s.Disk.Log, s.Disk.Safe = text, min(s.Disk.Safe, len(text)) })
	}
	log("no log", "")
	log("log and a space", s.Disk.Log+" ")
	log("log and a newline", s.Disk.Log+"\n")
	log("log and a size", s.Disk.Log+"10 ")
	log("log twice", s.Disk.Log+s.Disk.Log)
	log("log and an old batch", s.Disk.Log+logOf([]impl.Entry{put("old", 1, "", 1)}))
	log("an old batch and the log", logOf([]impl.Entry{put("old", 1, "", 1)})+s.Disk.Log)
	log("log and a new batch", s.Disk.Log+logOf([]impl.Entry{put("new", s.Tree.Seq+1, "", 1)}))
	log("log and a new batch that leaves a time out", s.Disk.Log+logOf([]impl.Entry{put("new", s.Tree.Seq+2, "", 1)}))
	log("log and a batch of the last time", s.Disk.Log+logOf([]impl.Entry{put("new", s.Tree.Seq, "", 1)}))
	if len(batches) > 0 {
		n := len(batches) - 1
		log("log without the last byte", s.Disk.Log[:len(s.Disk.Log)-1])
		log("log without the first byte", s.Disk.Log[1:])
		log("log without the last batch", logOf(batches[:n]...))
		log("log without the first batch", logOf(batches[1:]...))
		log("log with the first batch twice", logOf(append(lots{batches[0]}, batches...)...))
		log("log with the last batch twice", logOf(append(slices.Clone(batches), batches[n])...))
		log("log with the first batch last", logOf(append(slices.Clone(batches[1:]), batches[0])...))
		for _, e := range []impl.Entry{put("other", 0, "", 1), del("a", 0)} {
			e.Seq = batches[n][len(batches[n])-1].Seq
			other := append(slices.Clone(batches[n][:len(batches[n])-1]), e)
			log("log with another last entry "+e.Key, logOf(append(slices.Clone(batches[:n]), other)...))
		}
	}
	but("no entries in Mem", func(s *impl.Store) { s.Tree.Mem = nil })
	but("one more in Mem", func(s *impl.Store) { s.Tree.Mem = append(s.Tree.Mem, put("zzzzzzzz", s.Tree.Seq, "", 1)) })
	for i := range s.Tree.Mem {
		if i > 2 && i < len(s.Tree.Mem)-1 {
			continue
		}
		but(fmt.Sprint("Mem without ", i), func(s *impl.Store) { s.Tree.Mem = slices.Delete(s.Tree.Mem, i, i+1) })
		but(fmt.Sprint("Mem with twice ", i), func(s *impl.Store) { s.Tree.Mem = slices.Insert(s.Tree.Mem, i, s.Tree.Mem[i]) })
		but(fmt.Sprint("Mem with another N ", i), func(s *impl.Store) { s.Tree.Mem[i].N++ })
		but(fmt.Sprint("Mem with another Kind ", i), func(s *impl.Store) { s.Tree.Mem[i].Kind = 6 - s.Tree.Mem[i].Kind })
		but(fmt.Sprint("Mem with another Text ", i), func(s *impl.Store) { s.Tree.Mem[i].Text += "x" })
		but(fmt.Sprint("Mem with another Seq ", i), func(s *impl.Store) { s.Tree.Mem[i].Seq-- })
	}
	but("no levels on the disk", func(s *impl.Store) { s.Disk.Levels = nil })
	but("no levels in the tree", func(s *impl.Store) { s.Tree.Levels = nil })
	but("new levels on the disk", func(s *impl.Store) { s.Disk.Levels = impl.TreeNew().Levels })
	but("new levels in the tree", func(s *impl.Store) { s.Tree.Levels = impl.TreeNew().Levels })
	but("new levels in both", func(s *impl.Store) { s.Disk.Levels, s.Tree.Levels = impl.TreeNew().Levels, impl.TreeNew().Levels })
	but("two levels on the disk", func(s *impl.Store) { s.Disk.Levels = s.Disk.Levels[:2] })
	but("four levels on the disk", func(s *impl.Store) { s.Disk.Levels = append(s.Disk.Levels, nil) })
	but("four levels in both", func(s *impl.Store) {
		s.Disk.Levels, s.Tree.Levels = append(s.Disk.Levels, nil), append(s.Tree.Levels, nil)
	})
	for level, runs := range s.Disk.Levels {
		for i := range runs {
			at := fmt.Sprint(" of level ", level, ", run ", i)
			but("disk without a run"+at, func(s *impl.Store) { s.Disk.Levels[level] = slices.Delete(s.Disk.Levels[level], i, i+1) })
			but("tree without a run"+at, func(s *impl.Store) { s.Tree.Levels[level] = slices.Delete(s.Tree.Levels[level], i, i+1) })
			but("disk with another N"+at, func(s *impl.Store) { s.Disk.Levels[level][i].Ents[0].N++ })
			but("tree with another N"+at, func(s *impl.Store) { s.Tree.Levels[level][i].Ents[0].N++ })
			but("both with another N"+at, func(s *impl.Store) { s.Tree.Levels[level][i].Ents[0].N++; s.Disk.Levels[level][i].Ents[0].N++ })
			but("disk with other marks"+at, func(s *impl.Store) { s.Disk.Levels[level][i].Mask++ })
			but("disk with a later time"+at, func(s *impl.Store) { s.Disk.Levels[level][i].Ents[0].Seq = s.Disk.Seq + 1 })
			but("both with a later time"+at, func(s *impl.Store) {
				s.Tree.Levels[level][i].Ents[0].Seq, s.Disk.Levels[level][i].Ents[0].Seq = s.Disk.Seq+1, s.Disk.Seq+1
			})
			but("disk with an empty run"+at, func(s *impl.Store) { s.Disk.Levels[level][i] = impl.Run{} })
		}
	}
	for _, snaps := range [][]int{{0}, {s.Tree.Seq}, {0, s.Tree.Seq}, {s.Tree.Seq + 1}, {-1}, {5, 3}} {
		but(fmt.Sprint("snaps ", snaps), func(s *impl.Store) { s.Tree.Snaps = snaps })
	}
	// of a store that is not up, with something of a tree left
	for i, x := range []impl.Tree{{Seq: s.Tree.Seq}, {Seq: 1}, {Mem: s.Tree.Mem}, {Levels: s.Tree.Levels}, {Levels: make([][]impl.Run, 1)}, {Snaps: []int{0}}, s.Tree, impl.TreeNew(), {Mem: []impl.Entry{{}}}} {
		all[fmt.Sprint("not up, with a tree ", i)] = impl.Store{Tree: x, Disk: s.Disk}
	}
	all["not up, with empty lists"] = impl.Store{Tree: impl.Tree{Mem: []impl.Entry{}, Levels: [][]impl.Run{}, Snaps: []int{}}, Disk: s.Disk}
	return all
}

func TestStoreOkOfStoresThatAreTurned(t *testing.T) {
	x := treeOf(t, 47, []impl.Entry{put("a", 42, "x\ny", 1), add("b", 47, 2), del("b", 44), add("c", 43, 3)}, nil,
		lots{{add("a", 38, 2), put("b", 39, "b", 7)}, {add("a", 41, 3)}}, lots{{del("a", 30), add("b", 31, 3)}, {put("c", 32, "c", 1)}}, lots{{put("a", 21, "old", 5)}})
	some := upWith(t, x, 41, []impl.Entry{put("a", 42, "x\ny", 1), add("c", 43, 3), del("b", 44)}, []impl.Entry{add("b", 47, 2)})
	stores := []impl.Store{impl.StoreNew(), some}
	for seed := range uint32(4) {
		p := newStorePlay(seed, []int{2, 5, 30, 60}[seed])
		for range 60 {
			p.step(t)
		}
		if p.s = impl.StoreOpen(p.s); len(p.s.Tree.Mem) == 0 {
			p.s = wrote(t, p.s, put("k/000", 0, "t", 1), add("k/000", 0, 1))
		}
		stores = append(stores, okStore(t, p.s))
	}
	oks, not := 0, 0
	for _, s := range stores {
		for name, x := range turnedStores(s) {
			got := impl.StoreOk(x)
			if want := handStoreOk(x); got != want {
				t.Fatalf("%s: %v, of %v, not %v", name, got, x, want)
			}
			if got {
				oks++
			} else {
				not++
			}
			allAnswer(t, x, timeless(put("a", 0, "\n", 1), del("k/000", 0)), len(x.Disk.Log)/2, 0, 0)
		}
	}
	if oks < 200 || not < 200 {
		t.Errorf("%d are ok, %d are not", oks, not)
	}
}

// wrongStores is stores that are not ok, by what is wrong.
func wrongStores(t *testing.T) map[string]impl.Store {
	all := map[string]impl.Store{"nothing": {}, "nothing, up": {Up: true}, "a disk of nothing": {Up: true, Tree: impl.TreeNew()}}
	put1, del2 := []impl.Entry{put("a", 1, "t", 1)}, []impl.Entry{del("b", 2), add("a", 3, 1)}
	base := func() impl.Store {
		return upWith(t, treeOf(t, 3, handMerge(lots{put1, del2}), nil), 0, put1, del2)
	}
	but := func(name string, how func(s *impl.Store)) {
		s := base()
		how(&s)
		all[name] = s
	}
	but("a log of nothing", func(s *impl.Store) { s.Disk.Log = "" })
	but("another log", func(s *impl.Store) { s.Disk.Log = logOf(put1, []impl.Entry{del("b", 2), add("a", 3, 2)}) })
	but("half a log", func(s *impl.Store) { s.Disk.Log = logOf(put1) })
	but("a log that is cut", func(s *impl.Store) { s.Disk.Log = s.Disk.Log[:len(s.Disk.Log)-1] })
	but("a log that goes on", func(s *impl.Store) { s.Disk.Log += "1" })
	but("a batch twice", func(s *impl.Store) { s.Disk.Log += logOf(put1) })
	but("a batch twice, in Mem too", func(s *impl.Store) { s.Disk.Log, s.Tree.Mem = logOf(put1, del2, put1), append(s.Tree.Mem, put1[0]) })
	but("a batch twice, not up", func(s *impl.Store) { *s = impl.Store{Disk: s.Disk}; s.Disk.Log += logOf(put1) })
	but("safe below 0", func(s *impl.Store) { s.Disk.Safe = -1 })
	but("safe above the log", func(s *impl.Store) { s.Disk.Safe = len(s.Disk.Log) + 1 })
	but("safe below 0, not up", func(s *impl.Store) { *s = impl.Store{Disk: s.Disk}; s.Disk.Safe = -1 })
	but("safe above the log, not up", func(s *impl.Store) { *s = impl.Store{Disk: s.Disk}; s.Disk.Safe = len(s.Disk.Log) + 1 })
	but("other levels", func(s *impl.Store) { s.Disk.Levels = treeOf(t, 3, nil, nil, nil, nil, lots{{add("a", 1, 1)}}).Levels })
	but("other levels in the tree", func(s *impl.Store) { s.Tree.Levels = treeOf(t, 3, nil, nil, nil, nil, lots{{add("x", 1, 1)}}).Levels })
	but("a seq above", func(s *impl.Store) { s.Tree.Seq = 4 })
	but("a seq below", func(s *impl.Store) { s.Tree.Seq = 2 })
	but("the disk's seq above", func(s *impl.Store) { s.Disk.Seq = 4 })
	but("the disk's seq among Mem", func(s *impl.Store) { s.Disk.Seq = 1 })
	but("the disk's seq below 0", func(s *impl.Store) { s.Disk.Seq = -1 })
	but("up, all flushed, a seq above", func(s *impl.Store) { *s = impl.StoreNew(); s.Tree.Seq = 1 })
	but("up, all flushed, the disk's seq above", func(s *impl.Store) { *s = impl.StoreNew(); s.Disk.Seq = 1 })
	but("not up, with a tree", func(s *impl.Store) { s.Up = false })
	but("not up, with a new tree", func(s *impl.Store) { *s = impl.StoreNew(); s.Up = false })
	but("not up, with a seq", func(s *impl.Store) { *s = impl.Store{Disk: s.Disk, Tree: impl.Tree{Seq: 3}} })
	but("not up, with no levels", func(s *impl.Store) { *s = impl.Store{} })
	but("not up, with two of one key and time", func(s *impl.Store) {
		*s = impl.Store{Disk: s.Disk}
		s.Disk.Log = logOf([]impl.Entry{put("a", 1, "", 1)}, []impl.Entry{put("a", 1, "", 2)})
	})
	but("a log of 12001 bytes, not up", func(s *impl.Store) { *s = impl.Store{Disk: s.Disk}; s.Disk.Log = strings.Repeat("x", 12001) })
	over := func(n int) lots {
		var batches lots
		for i := range n {
			batches = append(batches, []impl.Entry{add("a", 1+i, 1)})
		}
		return batches
	}
	but("not up, with 61 entries beyond its runs", func(s *impl.Store) { *s = impl.Store{Disk: s.Disk}; s.Disk.Log = logOf(over(61)...) })
	but("up, with 61 entries beyond its runs", func(s *impl.Store) {
		s.Disk.Log, s.Tree.Mem, s.Tree.Seq = logOf(over(61)...), handMerge(over(61)), 61
	})
	x := impl.StoreNew()
	x.Disk.Log, x.Tree.Mem, x.Tree.Seq = logOf(over(60)...), handMerge(over(60)), 60
	okStore(t, x)
	okStore(t, impl.Store{Disk: x.Disk})
	for name, x := range wrongTrees(t) {
		all["a tree with "+name] = impl.Store{Up: true, Tree: x, Disk: impl.Disk{Levels: x.Levels, Seq: x.Seq}}
		if len(x.Mem) > 0 && x.Mem[0].Seq > 50 {
			all["a tree with "+name+", in the log"] = impl.Store{Up: true, Tree: x, Disk: impl.Disk{Log: logOf(slices.Collect(slices.Chunk(x.Mem, 1))...), Levels: x.Levels, Seq: 50}}
		}
		if !handTreeOk(impl.Tree{Seq: x.Seq, Levels: x.Levels}) {
			all["a disk with "+name] = impl.Store{Disk: impl.Disk{Levels: x.Levels, Seq: x.Seq}}
		}
	}
	return all
}

func TestStoresThatAreNotOkTellNothing(t *testing.T) {
	for name, s := range wrongStores(t) {
		if impl.StoreOk(s) || handStoreOk(s) {
			t.Errorf("%s: %v is ok", name, s)
			continue
		}
		for _, keep := range []int{-1, 0, 5, 99999} {
			for _, c := range storeCalls(timeless(put("a", 0, "", 1)), keep, keep%3, 0) {
				if got, ok := c.call(s); ok || !impl.StoreSame(got, impl.Store{}) {
					t.Errorf("%s, %s: %v, %v", name, c.name, got, ok)
				}
			}
		}
	}
}

func TestStoreSame(t *testing.T) {
	stores := func() []impl.Store {
		a, _ := roomyStore(t)
		all := []impl.Store{{}, {Up: true}, impl.StoreNew(), a}
		but := func(how func(s *impl.Store)) {
			s, _ := roomyStore(t)
			how(&s)
			all = append(all, s)
		}
		but(func(s *impl.Store) { s.Up = false })
		but(func(s *impl.Store) { s.Tree.Seq++ })
		but(func(s *impl.Store) { s.Tree.Mem[1].N++ })
		but(func(s *impl.Store) { s.Tree.Mem = s.Tree.Mem[:2] })
		but(func(s *impl.Store) { s.Tree.Levels[1][1].Ents[1].Text = "other" })
		but(func(s *impl.Store) { s.Tree.Snaps[1]++ })
		but(func(s *impl.Store) { s.Disk.Log += " " })
		but(func(s *impl.Store) { s.Disk.Log = "" })
		but(func(s *impl.Store) { s.Disk.Log = strings.ToUpper(s.Disk.Log) })
		but(func(s *impl.Store) { s.Disk.Safe++ })
		but(func(s *impl.Store) { s.Disk.Seq++ })
		but(func(s *impl.Store) { s.Disk.Levels[1][1].Ents[1].Text = "other" })
		but(func(s *impl.Store) { s.Disk.Levels[1][1].Mask++ })
		but(func(s *impl.Store) { s.Disk.Levels[2] = s.Disk.Levels[2][:2] })
		but(func(s *impl.Store) {
			s.Disk.Levels[0][0], s.Disk.Levels[0][1] = s.Disk.Levels[0][1], s.Disk.Levels[0][0]
		})
		but(func(s *impl.Store) { s.Disk.Levels = s.Disk.Levels[:2] })
		but(func(s *impl.Store) { s.Disk.Levels = append(s.Disk.Levels, nil) })
		return all
	}
	a, b := stores(), stores()
	for i := range a {
		for j := range b {
			if got := impl.StoreSame(a[i], b[j]); got != (i == j) {
				t.Errorf("%d, %d: %v", i, j, got)
			}
		}
	}
	// the empty list and the nil list are the same
	empty := impl.Store{Tree: impl.Tree{Mem: []impl.Entry{}, Levels: [][]impl.Run{}, Snaps: []int{}}, Disk: impl.Disk{Levels: [][]impl.Run{}}}
	if !impl.StoreSame(empty, impl.Store{}) || !impl.StoreSame(impl.Store{}, empty) {
		t.Error("empty lists")
	}
	x, y := impl.StoreNew(), impl.StoreNew()
	x.Tree.Mem, x.Tree.Levels, x.Disk.Levels, x.Tree.Snaps = nil, [][]impl.Run{nil, nil, nil}, [][]impl.Run{nil, nil, nil}, nil
	y.Tree.Mem, y.Tree.Levels, y.Disk.Levels, y.Tree.Snaps = []impl.Entry{}, [][]impl.Run{{}, {}, {}}, [][]impl.Run{{}, {}, {}}, []int{}
	if !impl.StoreSame(x, y) {
		t.Error("levels without runs")
	}
	for _, s := range []impl.Store{x, y} {
		allAnswer(t, s, timeless(add("a", 0, 1)), 0, 0, 0)
	}
	x.Tree.Levels = [][]impl.Run{{}, nil, {}}
	okStore(t, x)
	storeKept(t, wrote(t, y, add("a", 0, 1)))(wrote(t, x, add("a", 0, 1)), false)
	storeKept(t, x)(impl.StoreWrite(x, nil))
	storeKept(t, x)(impl.StoreWrite(x, []impl.Entry{}))
}

// storePlay is a store that many things are done to, and what is known of it without it.
type storePlay struct {
	*play
	s    impl.Store
	past []map[string]impl.Cell // what each key had behind each batch that is there, from none on
	seqs []int                  // and the last time then
	sure int                    // how many batches are there whatever falls
}

func newStorePlay(seed uint32, keys int) *storePlay {
	return &storePlay{play: newPlay(seed, keys), s: impl.StoreNew(), past: []map[string]impl.Cell{{}}, seqs: []int{0}}
}

// oddBatch is a batch with texts that a reader may trip over.
func (p *storePlay) oddBatch() []impl.Entry {
	batch := p.batch()
	for i, e := range batch {
		if e.Kind == impl.EntPut && p.next(3) > 0 {
			batch[i].Text = oddTexts[p.next(len(oddTexts))]
		}
	}
	return batch
}

// does does something to the store, and asks all that is known of it. Promise 10: behind a fall it is as it was behind some batch, and all that are sure are there.
func (p *storePlay) does(t *testing.T, c storeCall, batch []impl.Entry) {
	t.Helper()
	was, ok := p.s, false
	p.s, ok = c.answers(t, was)
	name, _, _ := strings.Cut(c.name, " ")
	p.done[fmt.Sprintf("%s, up %v, %v", name, was.Up, ok)]++
	last := len(p.past) - 1
	switch {
	case name == "StoreWrite" && ok:
		now := maps.Clone(p.past[last])
		for _, e := range batch {
			e.Seq = 2
			now[e.Key] = handCell([]impl.Entry{put(e.Key, 1, now[e.Key].Text, now[e.Key].N), e}, e.Key, 2)
		}
		p.past, p.seqs = append(p.past[:last+1:last+1], now), append(p.seqs[:last+1:last+1], p.s.Tree.Seq)
	case name == "StoreSync" && was.Up, name == "StoreFlush" && ok:
		p.sure = last
	case name == "StoreOpen" && !was.Up:
		n := slices.Index(p.seqs, p.s.Tree.Seq)
		if n < p.sure {
			t.Fatalf("%d of %d are sure, and there are %d: %v", p.sure, last, n, p.s)
		}
		p.done[fmt.Sprintf("opened, all %v, more than sure %v", n == last, n > p.sure)]++
		p.past, p.seqs, p.sure = p.past[:n+1], p.seqs[:n+1], n
	}
	p.asked(t)
}

// asked asks what each key has, while the store is up.
func (p *storePlay) asked(t *testing.T) {
	t.Helper()
	if !p.s.Up {
		return
	}
	now, seq := p.past[len(p.past)-1], p.seqs[len(p.seqs)-1]
	cells := cellsOf(impl.TreeAll(p.s.Tree), seq)
	if p.s.Tree.Seq != seq {
		t.Fatalf("%d, not %d: %v", p.s.Tree.Seq, seq, p.s)
	}
	for _, key := range p.keys {
		if cells[key] != now[key] {
			t.Fatalf("%q has %v, not %v, in %v", key, cells[key], now[key], p.s)
		}
	}
	key := p.keys[p.next(len(p.keys))]
	if got := impl.TreeCell(p.s.Tree, key, seq); got != now[key] {
		t.Fatalf("%q has %v, not %v, in %v", key, got, now[key], p.s)
	}
}

func (p *storePlay) step(t *testing.T) {
	t.Helper()
	batch, level := p.oddBatch(), p.next(2)
	keep, pick := p.next(len(p.s.Disk.Log)+20)-10, 0
	if p.s.Up {
		pick = p.next(len(p.s.Tree.Levels[level])+2) - 1
	}
	calls := storeCalls(batch, keep, level, pick)
	n := p.next(100)
	if !p.s.Up && p.next(2) == 0 {
		n = 99 // to be opened
	}
	for i, upTo := range []int{48, 58, 70, 85, 91, 97, 100} {
		if n < upTo {
			p.does(t, calls[i], batch)
			return
		}
	}
}

// Promise 10, of many stores, behind each thing that is done to them.
func TestWhatWasSafeIsThere(t *testing.T) {
	done := map[string]int{}
	for seed := range uint32(40) {
		p := newStorePlay(seed, []int{1, 4, 25, 70, 160}[seed%5])
		for range 120 {
			p.step(t)
		}
		for what, n := range p.done {
			done[what] += n
		}
	}
	for _, what := range []string{
		"StoreWrite, up true, true", "StoreWrite, up true, false", "StoreWrite, up false, false", "StoreSync, up true, false", "StoreFlush, up true, true", "StoreFlush, up true, false",
		"StoreCompact, up true, true", "StoreCompact, up true, false", "StoreFall, up true, false", "StoreFall, up false, false", "StoreBreak, up true, false", "StoreBreak, up false, false", "StoreOpen, up true, false", "StoreOpen, up false, false",
		"opened, all true, more than sure true", "opened, all true, more than sure false", "opened, all false, more than sure false", "opened, all false, more than sure true",
	} {
		if done[what] < 10 {
			t.Errorf("%s: %d", what, done[what])
		}
	}
}

// Promise 10, of all orders in which a few things may be done to a store.
func TestWhatWasSafeIsThereInEachOrder(t *testing.T) {
	full := impl.StoreNew() // the first level has all its runs, so a flush is refused
	for range 4 {
		full = flushed(t, wrote(t, full, add("a", 0, 1)))
	}
	for name, c := range map[string]struct {
		s    impl.Store
		has  impl.Cell
		left int
	}{"new": {impl.StoreNew(), impl.Cell{}, 4}, "full": {full, has("", 4), 4}} {
		p := newStorePlay(1, 0)
		p.keys, p.s, p.past, p.seqs = []string{"a", "b"}, c.s, []map[string]impl.Cell{{"a": c.has}}, []int{c.s.Tree.Seq}
		one, two := timeless(add("a", 0, 1)), timeless(put("b", 0, "\n10 b 2 2 0 0 \n", 7), add("a", 0, 10))
		var each func(p storePlay, left int)
		each = func(p storePlay, left int) {
			if left == 0 {
				return
			}
			size := len(p.s.Disk.Log)
			calls := storeCalls(one, size, 0, 0)
			calls = append(calls, storeCalls(two, size-1, 1, 0)...)
			calls = append(calls, storeCalls(two, -1, 1, 0)[4:6]...)
			for i, c := range calls {
				if i == 8 || i == 9 || i == 13 {
					continue // it is done already
				}
				q, batch := p, one
				if i >= 7 {
					batch = two
				}
				q.does(t, c, batch)
				each(q, left-1)
			}
		}
		each(*p, c.left)
		if p.done["opened, all false, more than sure true"]+p.done["opened, all false, more than sure false"] < 50 {
			t.Errorf("%s: %v", name, p.done)
		}
	}
}

// A store falls with each number of bytes kept, at rest and in a flush, is opened, written, and falls again.
func TestAStoreThatFallsTwice(t *testing.T) {
	first := timeless(put("a", 0, "one", 1), add("b", 0, 5))
	odd := timeless(put("b", 0, "\n10 b 2 2 0 0 \n", 7), add("a", 0, 10))
	last := timeless(del("b", 0), put("c", 0, " ", -1))
	start := newStorePlay(1, 0)
	start.keys = []string{"a", "b", "c"}
	for i, batch := range (lots{first, odd, first, odd, last}) {
		start.does(t, storeCalls(batch, 0, 0, 0)[0], batch)
		if i == 1 {
			start.does(t, storeCalls(nil, 0, 0, 0)[2], nil) // what is ahead of this is in runs
		}
		if i == 2 {
			start.does(t, storeCalls(nil, 0, 0, 0)[1], nil) // and what is ahead of this is safe
		}
	}
	size := len(start.s.Disk.Log)
	if safe := start.s.Disk.Safe; safe < 20 || safe > size-40 {
		t.Fatalf("%v", start.s)
	}
	for keep := -1; keep <= size+1; keep++ {
		for how := 4; how <= 5; how++ {
			p := *start
			p.does(t, storeCalls(nil, keep, 0, 0)[how], nil)
			p.does(t, storeCalls(nil, keep, 0, 0)[how], nil) // not up, so as it was
			p.does(t, storeCalls(nil, keep, 0, 0)[6], nil)
			p.does(t, storeCalls(nil, keep, 0, 0)[6], nil)
			p.does(t, storeCalls(last, 0, 0, 0)[0], last)
			more := len(p.s.Disk.Log)
			for _, again := range []int{0, more - 20, more - 1, more} {
				for then := 4; then <= 5; then++ {
					q := p
					q.does(t, storeCalls(nil, again, 0, 0)[then], nil)
					q.does(t, storeCalls(nil, again, 0, 0)[6], nil)
					q.does(t, storeCalls(odd, 0, 0, 0)[0], odd)
				}
			}
		}
	}
}

// roomyStore is a store whose lists are longer than they are told to be, and all texts in memory of their own; and all that is in that memory, as a text.
func roomyStore(t *testing.T) (impl.Store, func() string) {
	t.Helper()
	x, memory := roomyTree(t)
	y, more := roomyTree(t)
	old := []impl.Entry{put("c/key", 50, "of 50", 1), del("d/key", 51)}
	log := logOf(old, []impl.Entry{del("b/key", 57), add("b/key", 58, 2)}, []impl.Entry{put("a/key", 60, "newest", 1)})
	s := okStore(t, impl.Store{Up: true, Tree: x, Disk: impl.Disk{Log: log, Safe: 5, Levels: y.Levels, Seq: 55}})
	return s, func() string { return fmt.Sprint(memory(), more(), s) }
}

// fallenStore is a roomy store that is not up, with a log that is cut.
func fallenStore(t *testing.T) (impl.Store, func() string) {
	t.Helper()
	s, memory := roomyStore(t)
	s.Up, s.Disk.Log, s.Disk.Safe = false, strings.Clone(s.Disk.Log[:len(s.Disk.Log)-5]), 40
	s.Tree = impl.Tree{Mem: append(make([]impl.Entry, 0, 9), put("spare", 1, "spare", 1))[:0], Levels: make([][]impl.Run, 0, 4), Snaps: make([]int, 0, 4)}
	return okStore(t, s), func() string { return fmt.Sprint(memory(), s, s.Tree.Mem[:9]) }
}

// storeSpans is the memory of all lists and texts of a store, spare room included.
func storeSpans(s impl.Store) []span {
	all := spansOf(s.Tree)
	for _, some := range spansOf(impl.Tree{Levels: s.Disk.Levels}) {
		some.what = "disk's " + some.what
		all = append(all, some)
	}
	if log := uintptr(unsafe.Pointer(unsafe.StringData(s.Disk.Log))); len(s.Disk.Log) > 0 {
		all = append(all, span{log, log + uintptr(len(s.Disk.Log)), "Log"})
	}
	return all
}

// someCalls is calls that answer a store, done and refused.
func someCalls(batch []impl.Entry) []storeCall {
	all := storeCalls(batch, 50, 0, 0)
	all = append(all, storeCalls(nil, 0, 1, 1)...)
	return append(all, storeCalls(batch[:cap(batch)], 9999, 2, 1)...)
}

func TestStoresWriteNothingIntoWhatTheyAreGiven(t *testing.T) {
	batch := append(timeless(put("b/key", 0, "written", 1), add("a/key", 0, 1)), put("spare", 9, "spare", 1), put("spare", 9, "spare", 1))[:2]
	room := slices.Clone(batch[:cap(batch)])
	up, upMemory := roomyStore(t)
	down, downMemory := fallenStore(t)
	wrong, wrongMemory := roomyStore(t)
	wrong.Disk.Seq = 57
	for _, given := range []struct {
		s      impl.Store
		memory func() string
	}{{up, upMemory}, {down, downMemory}, {wrong, wrongMemory}} {
		was := given.memory()
		for _, c := range someCalls(batch) {
			c.answers(t, given.s)
			if now := given.memory(); now != was {
				t.Fatalf("%s wrote into its store: %s, not %s", c.name, now, was)
			}
			notInto(t, c.name, batch[:cap(batch)], room)
		}
		impl.StoreOk(given.s)
		impl.StoreSame(given.s, given.s)
		if now := given.memory(); now != was {
			t.Fatalf("asking a store wrote into it: %s, not %s", now, was)
		}
	}
	done := append(doneFrom(4, put("a", 0, "x y", 1), del("b", 0)), put("spare", 6, "spare", 1))
	room = slices.Clone(done)
	if impl.FrameText(done[:2]) != logOf(done[:2]) || impl.FrameText(done[:0]) != "" {
		t.Error("FrameText")
	}
	notInto(t, "FrameText", done, room)
}

func TestStoresAreNewMemory(t *testing.T) {
	batch := timeless(put(strings.Clone("b/key"), 0, strings.Clone("written"), 1), add(strings.Clone("a/key"), 0, 1))
	up, _ := roomyStore(t)
	down, _ := fallenStore(t)
	shared, _ := roomyStore(t) // what it is given may be shared, what it answers is not
	shared.Disk.Levels = shared.Tree.Levels
	bare := impl.StoreNew()
	bare.Disk.Log = oldLog(t, 300)
	bare.Tree.Seq, bare.Disk.Seq = 5, 5
	bare.Tree.Mem, bare.Tree.Snaps = up.Tree.Mem[:0], up.Tree.Snaps[:0]
	for level := range 3 {
		bare.Tree.Levels[level], bare.Disk.Levels[level] = up.Tree.Levels[level][:0], up.Disk.Levels[level][:0]
	}
	for _, s := range []impl.Store{up, down, okStore(t, shared), okStore(t, bare)} {
		given := slices.Concat(storeSpans(s), spansOf(impl.Tree{Mem: batch}))
		for _, c := range someCalls(batch) {
			got, _ := c.call(s)
			apartFrom(t, c.name, storeSpans(got), given)
		}
	}
	apartFrom(t, "StoreNew", slices.Concat(storeSpans(impl.StoreNew()), storeSpans(impl.StoreNew())), nil)
	log := strings.Clone(logOf(batchesOf(20)...))
	batches, _ := impl.FrameRead(log)
	got := []span{{uintptr(unsafe.Pointer(unsafe.SliceData(batches))), uintptr(unsafe.Pointer(unsafe.SliceData(batches))) + uintptr(cap(batches))*unsafe.Sizeof(batches[0]), "batches"}}
	for _, batch := range batches {
		got = append(got, spansOf(impl.Tree{Mem: batch})...)
	}
	from := uintptr(unsafe.Pointer(unsafe.StringData(log)))
	apartFrom(t, "FrameRead", got, []span{{from, from + uintptr(len(log)), "the text"}})
}

// batchesOf is n batches of three entries each.
func batchesOf(n int) lots {
	var all lots
	for i := range n {
		all = append(all, doneFrom(3*i+1, put("a/key", 0, "text", i), put("a/key", 0, "text", -i), put("b/key", 0, "other text", 0)))
	}
	return all
}

// apartFrom says that pieces of memory are apart from those that were given, and from each other.
func apartFrom(t *testing.T, name string, got []span, given []span) {
	t.Helper()
	for i, s := range got {
		for _, o := range slices.Concat(given, got[:i]) {
			if s.from < o.to && o.from < s.to {
				t.Errorf("%s: %s is in the memory of %s", name, s.what, o.what)
			}
		}
	}
}
