package tests

import (
	"fmt"
	"maps"
	"math"
	"slices"
	"strings"
	"testing"
	"unsafe"

	"loop.example/comptoir/impl"
)

// comes is that a posting comes.
func comes(p impl.Post) impl.Act { return impl.Act{Kind: impl.ActPosts, Post: p} }

// happens is something of a kind, with up to two numbers.
func happens(kind int, n ...int) impl.Act {
	n = append(n, 0, 0)
	return impl.Act{Kind: kind, A: n[0], B: n[1]}
}

// handHas is what all keys of a tree have that have something.
func handHas(x impl.Tree) map[string]impl.Cell {
	all := lots{x.Mem}
	for level := range x.Levels {
		all = append(all, lotsOf(x, level)...)
	}
	cells := cellsOf(handMerge(all), x.Seq)
	maps.DeleteFunc(cells, func(_ string, c impl.Cell) bool { return !c.Has })
	return cells
}

// handBookOf is a book by hand; false, if the postings are none.
func handBookOf(b []impl.Post) (*handBook, bool) {
	h := &handBook{make([][]impl.Leg, 100)}
	for _, p := range b {
		if h.code(p) != impl.PostFine {
			return nil, false
		}
		h.legs[p.Id] = p.Legs
	}
	return h, true
}

// handLedBook is the book in a store's keys, and whether there is one.
func handLedBook(s impl.Store) ([]impl.Post, bool) {
	if !s.Up || !handStoreOk(s) {
		return nil, false
	}
	cells := handHas(s.Tree)
	n := cells["n"].N
	if n < 0 || n > 40 {
		return nil, false
	}
	var b []impl.Post
	for i := range n {
		p, ok := impl.PostRead(cells[fmt.Sprintf("j/%02d", i)].Text)
		if !ok {
			return nil, false
		}
		b = append(b, p)
	}
	if _, ok := handBookOf(b); !ok {
		return nil, false
	}
	return b, true
}

// handLedOk takes away, key by key, what the book says; nothing may be left.
func handLedOk(s impl.Store) bool {
	b, ok := handLedBook(s)
	if !ok {
		return false
	}
	h, _ := handBookOf(b)
	cells := handHas(s.Tree)
	count := cells["n"]
	wrong := count.Text != "" || count.N != len(b)
	gone := map[string]bool{"n": true}
	is := func(key string, text string, n int) {
		if cells[key] != has(text, n) {
			wrong = true
		}
		gone[key] = true
	}
	for i, p := range b {
		is(fmt.Sprintf("i/%02d", p.Id), "", i)
		is(fmt.Sprintf("j/%02d", i), impl.PostText(p), 0)
		for _, l := range p.Legs {
			is(fmt.Sprintf("b/%s/%d", l.Acct, l.Cur), "", h.bal(l.Acct, l.Cur))
		}
	}
	for key := range cells {
		wrong = wrong || !gone[key]
	}
	return !wrong
}

// handBatch is what is done to keys by a posting that comes to a place.
func handBatch(p impl.Post, place int) []impl.Entry {
	batch := []impl.Entry{put(fmt.Sprintf("i/%02d", p.Id), 0, "", place), put(fmt.Sprintf("j/%02d", place), 0, impl.PostText(p), 0), add("n", 0, 1)}
	for _, l := range p.Legs {
		batch = append(batch, add(fmt.Sprintf("b/%s/%d", l.Acct, l.Cur), 0, l.N))
	}
	return batch
}

// handLedPost is LedPost of any store.
func handLedPost(s impl.Store, p impl.Post) (impl.Store, int) {
	if handStoreOk(s) && !s.Up {
		return s, 5
	}
	if !handLedOk(s) {
		return impl.Store{}, 1
	}
	b, _ := handLedBook(s)
	h, _ := handBookOf(b)
	if code := h.code(p); code != 0 {
		return s, code
	}
	next, ok := handWrite(s, handBatch(p, len(b)))
	if !ok {
		return s, 6
	}
	return next, 0
}

// handLedDo is LedDo of any store.
func handLedDo(s impl.Store, a impl.Act) (impl.Store, int) {
	open := s
	if handStoreOk(s) && !s.Up {
		open = handOpen(s)
	}
	if !handLedOk(open) {
		return impl.Store{}, 1
	}
	ended := func(s impl.Store, ok bool) (impl.Store, int) {
		if !ok {
			return s, 6
		}
		return s, 0
	}
	switch a.Kind {
	case 1:
		return handLedPost(s, a.Post)
	case 2:
		if s.Up {
			s.Disk.Safe = len(s.Disk.Log)
		}
		return s, 0
	case 3:
		return ended(handFlush(s))
	case 4:
		return ended(handStoreCompact(s, a.A, a.B))
	case 5:
		return handFall(s, a.A), 0
	case 6:
		if !s.Up {
			return s, 0
		}
		return handBreak(s, a.A), 0
	case 7:
		return open, 0
	}
	return s, 1
}

// ledAccts and ledCurs are what LedBal is asked of, some of which are none.
var (
	ledAccts = []string{"a", "b", "c", "cash", "zz", "d", "zzzz", "", "A", "abcde", "a/1", "n", "\xff"}
	ledCurs  = []int{1, 2, 3, 0, 4, -1, math.MinInt, math.MaxInt}
)

// tellsBook asks a store that is up of its book, balances and accounts, which are those of a book that is kept beside it.
func tellsBook(t *testing.T, s impl.Store, b []impl.Post) {
	t.Helper()
	h, ok := handBookOf(b)
	if !ok || !impl.LedOk(s) {
		t.Fatalf("LedOk is %v of %v, with %s", impl.LedOk(s), s, texts(b))
	}
	if got := impl.LedBook(s); !slices.EqualFunc(got, b, impl.PostSame) {
		t.Fatalf("%s, not %s, in %v", texts(got), texts(b), s)
	}
	var accts []string
	for _, p := range b {
		for _, l := range p.Legs {
			accts = append(accts, l.Acct)
		}
	}
	slices.Sort(accts)
	accts = slices.Compact(accts)
	if got := impl.LedAccts(s); !slices.Equal(got, accts) {
		t.Fatalf("%q, not %q, in %v", got, accts, s)
	}
	// which balances are asked hangs on the store, so that in many stores all are
	accts = append(accts, "a", "zz")
	for i := range 5 {
		at := s.Tree.Seq + len(s.Disk.Log) + 7*i
		acct, cur := accts[at%len(accts)], 1+at/len(accts)%3
		if got, want := impl.LedBal(s, acct, cur), h.bal(acct, cur); got != want {
			t.Fatalf("%s has %d of %d, not %d, in %v", acct, got, cur, want, s)
		}
	}
}

// tellsBalances asks all balances of a store that has a book.
func tellsBalances(t *testing.T, s impl.Store, b []impl.Post) {
	t.Helper()
	tellsBook(t, s, b)
	h, _ := handBookOf(b)
	for _, acct := range slices.Concat(impl.BookAccts(b), ledAccts) {
		for _, cur := range ledCurs {
			if got, want := impl.LedBal(s, acct, cur), h.bal(acct, cur); got != want {
				t.Fatalf("%q has %d of %d, not %d, in %v", acct, got, cur, want, s)
			}
		}
	}
}

// tellsNone asks a store that has no accounts, or is not up.
func tellsNone(t *testing.T, s impl.Store) {
	t.Helper()
	if impl.LedOk(s) || len(impl.LedAccts(s)) != 0 {
		t.Fatalf("%v, %q of %v", impl.LedOk(s), impl.LedAccts(s), s)
	}
	for _, acct := range []string{"a", "b", "cash"} {
		if got := impl.LedBal(s, acct, 1+len(s.Disk.Log)%3); got != 0 {
			t.Fatalf("%q has %d in %v", acct, got, s)
		}
	}
}

// acted is a store with accounts behind something, and how that ended, both held against what is worked out by hand.
func acted(t *testing.T, s impl.Store, a impl.Act) (impl.Store, int) {
	t.Helper()
	want, by := handLedDo(s, a)
	got, code := impl.LedDo(s, a)
	if code != by || !impl.StoreSame(got, want) {
		t.Fatalf("%v: %d, not %d; %v, not %v", a, code, by, got, want)
	}
	if a.Kind == impl.ActPosts {
		same, is := impl.LedPost(s, a.Post)
		if is != code || !impl.StoreSame(same, want) {
			t.Fatalf("LedPost of %v: %d, not %d; %v, not %v", a, is, code, same, want)
		}
	}
	if code != impl.PostFine && !impl.StoreSame(got, s) {
		t.Fatalf("%v is refused, and gives %v, not %v", a, got, s)
	}
	return got, code
}

// ended is a store behind something that has to end with a code.
func ended(t *testing.T, s impl.Store, a impl.Act, code int) impl.Store {
	t.Helper()
	got, is := acted(t, s, a)
	if is != code {
		t.Fatalf("%v: %d, not %d, of %v", a, is, code, s)
	}
	return got
}

// took is a store behind postings, each of which it has to take.
func took(t *testing.T, s impl.Store, all ...string) impl.Store {
	t.Helper()
	for _, p := range read(t, all...) {
		s = ended(t, s, comes(p), impl.PostFine)
	}
	return s
}

// somePosts is postings with balances that come to 0, and an account in two legs.
var somePosts = []string{"1 a:1:900 b:1:-900", "7 a:2:5 cash:2:-5 a:1:100 b:1:-100", "0 c:3:8 a:3:-8", "5 a:3:8 c:3:-8"}

// depths is one store in several: all in no run, in one of each level, and here and there.
func depths(t *testing.T, all ...string) map[string]impl.Store {
	t.Helper()
	s := took(t, impl.StoreNew(), all...)
	stores := map[string]impl.Store{"in no run": s}
	s = ended(t, s, happens(impl.ActFlushes), impl.PostFine)
	stores["on level 0"] = s
	s = ended(t, s, happens(impl.ActCompacts, 0, 0), impl.PostFine)
	stores["on level 1"] = s
	s = ended(t, s, happens(impl.ActCompacts, 1, 0), impl.PostFine)
	stores["on level 2"] = s
	s = impl.StoreNew()
	for i, text := range all {
		s = took(t, s, text)
		if i%4 < 3 {
			s = ended(t, s, happens(impl.ActFlushes), impl.PostFine)
		}
		if i%4 == 0 || i%4 == 1 {
			s = ended(t, s, happens(impl.ActCompacts, 0, 0), impl.PostFine)
		}
		if i%4 == 0 {
			s = ended(t, s, happens(impl.ActCompacts, 1, 0), impl.PostFine)
		}
	}
	stores["here and there"] = s
	for _, s := range stores {
		tellsBalances(t, s, read(t, all...))
	}
	return stores
}

func TestLedPostWritesItsKeysInOrder(t *testing.T) {
	s := took(t, impl.StoreNew(), "1 a:1:900 b:1:-900")
	want := logOf([]impl.Entry{put("i/01", 1, "", 0), put("j/00", 2, "1 a:1:900 b:1:-900", 0), add("n", 3, 1), add("b/a/1", 4, 900), add("b/b/1", 5, -900)})
	if s.Disk.Log != want || s.Disk.Safe != 0 || len(want) != 92 || s.Tree.Seq != 5 {
		t.Fatalf("%q, not %q", s.Disk.Log, want)
	}
	s = took(t, s, "99 cash:3:-7 a:3:9 cash:3:-7 a:3:5")
	want += logOf([]impl.Entry{put("i/99", 6, "", 1), put("j/01", 7, "99 cash:3:-7 a:3:9 cash:3:-7 a:3:5", 0), add("n", 8, 1), add("b/cash/3", 9, -7), add("b/a/3", 10, 9), add("b/cash/3", 11, -7), add("b/a/3", 12, 5)})
	if s.Disk.Log != want || len(s.Tree.Mem) != 12 || s.Tree.Seq != 12 {
		t.Fatalf("%q, not %q", s.Disk.Log, want)
	}
	for key, want := range map[string]impl.Cell{
		"n": has("", 2), "i/01": has("", 0), "i/99": has("", 1), "j/00": has("1 a:1:900 b:1:-900", 0), "j/01": has("99 cash:3:-7 a:3:9 cash:3:-7 a:3:5", 0),
		"b/a/1": has("", 900), "b/b/1": has("", -900), "b/cash/3": has("", -14), "b/a/3": has("", 14), "i/00": {}, "j/02": {}, "b/a/2": {},
	} {
		if got := impl.TreeCell(s.Tree, key, 12); got != want {
			t.Errorf("%q has %v, not %v", key, got, want)
		}
	}
}

// The play that the document's last chapter tells as a script.
func TestLedPlayOfTheDocument(t *testing.T) {
	var acts []impl.Act
	posts := func(text string) { acts = append(acts, comes(read(t, text)[0])) }
	does := func(kind int, n ...int) { acts = append(acts, happens(kind, n...)) }
	size := func(want ...int) {
		t.Helper()
		s, _ := impl.LedPlay(acts)
		got := []int{s.Tree.Seq, len(s.Tree.Mem), len(s.Disk.Levels[0]), len(s.Disk.Levels[1]), len(s.Disk.Levels[2]), len(s.Disk.Log), s.Disk.Safe}
		if !slices.Equal(got, want) {
			t.Errorf("behind %d: %v, not %v", len(acts), got, want)
		}
	}
	posts("1 a:1:900 b:1:-900")
	does(impl.ActSyncs)
	posts("2 a:1:300 cash:1:-300")
	size(10, 10, 0, 0, 0, 191, 92)
	does(impl.ActFalls, 40)
	does(impl.ActOpens)
	if s, _ := impl.LedPlay(acts); impl.LedBal(s, "a", 1) != 900 {
		t.Errorf("%v", s)
	}
	posts("2 a:1:300 cash:1:-300")
	does(impl.ActFlushes)
	posts("3 a:1:900 b:1:-900")
	posts("4 cash:2:5 a:2:-5")
	does(impl.ActCompacts, 0, 0)
	size(15, 5, 0, 1, 0, 95, 0)
	does(impl.ActBreaks, 0)
	does(impl.ActOpens)
	size(15, 0, 1, 1, 0, 0, 0)
	s, codes := impl.LedPlay(acts)
	if !slices.Equal(codes, []int{0, 0, 0, 0, 0, 0, 0, 3, 0, 0, 0, 0}) {
		t.Errorf("%v", codes)
	}
	tellsBook(t, s, read(t, "1 a:1:900 b:1:-900", "2 a:1:300 cash:1:-300", "4 cash:2:5 a:2:-5"))
}

func TestLedOfAStoreOfNothing(t *testing.T) {
	s := impl.StoreNew()
	tellsBook(t, s, nil)
	if len(impl.LedBook(s)) != 0 || impl.LedBal(s, "a", 1) != 0 {
		t.Error("it has something")
	}
	for _, acts := range [][]impl.Act{nil, {}} {
		got, codes := impl.LedPlay(acts)
		if !impl.StoreSame(got, s) || len(codes) != 0 {
			t.Errorf("%v, %v", got, codes)
		}
	}
	// the count was never added to, was taken away, or is put as 0: there are no postings
	for _, batch := range [][]impl.Entry{{del("n", 0)}, {put("n", 0, "", 0)}, {put("n", 0, "t", 7), put("n", 0, "", 0)}, {add("n", 0, 0)}, {add("n", 0, 5), add("n", 0, -5)}, {put("x", 0, "t", 1), del("x", 0)}} {
		x := wrote(t, s, batch...)
		tellsBook(t, x, nil)
		x = ended(t, x, happens(impl.ActFlushes), impl.PostFine)
		x = took(t, x, "1 a:1:5 b:1:-5")
		tellsBook(t, x, read(t, "1 a:1:5 b:1:-5"))
		x = ended(t, x, happens(impl.ActFlushes), impl.PostFine)
		x = ended(t, x, happens(impl.ActCompacts, 0, 0), impl.PostFine)
		tellsBook(t, x, read(t, "1 a:1:5 b:1:-5"))
	}
	for _, batch := range [][]impl.Entry{{put("n", 0, "t", 0)}, {put("n", 0, "", 1)}, {put("n", 0, "", -1)}, {add("n", 0, 1)}, {put("n", 0, "", 41)}, {put("x", 0, "", 0)}, {add("b/a/1", 0, 0)}} {
		x := wrote(t, s, batch...)
		if tellsNone(t, x); len(impl.LedBook(x)) != 0 || handLedOk(x) {
			t.Errorf("%v: %v", batch, impl.LedBook(x))
		}
	}
	// lists that are empty, and not nil
	s.Tree.Mem, s.Tree.Snaps, s.Tree.Levels, s.Disk.Levels = []impl.Entry{}, []int{}, [][]impl.Run{{}, nil, {}}, [][]impl.Run{nil, {}, {}}
	tellsBook(t, s, nil)
	took(t, s, somePosts...)
}

// Each reason for which a posting is refused, wherever the keys stand.
func TestLedPostEndsAsTheBookDoes(t *testing.T) {
	for name, s := range depths(t, somePosts...) {
		for _, c := range []struct {
			text string
			code int
		}{
			{"2 a:1:1000 d:1:-1000", 0}, {"2 a:1:999 a:1:1 d:1:-1000", 0}, {"2 a:1:1000 a:1:1 d:1:-1000", 1}, {"2 a:1:1000 a:1:1 d:1:-1000 d:1:-1", 3}, {"2 b:1:-1000 d:1:1000", 0}, {"2 b:1:-1000 b:1:-1 d:1:1000 d:1:1", 3},
			{"2 a:1:1000 a:1:1 a:1:-1 d:1:-1000", 0}, {"2 a:1:5", 1}, {"2 a:1:5 b:1:-4", 1}, {"2 a:1:5 b:2:-5", 1},
			{"1 a:1:5 b:1:-5", 2}, {"7 a:1:5 b:1:-5", 2}, {"0 a:1:5 b:1:-5", 2}, {"5 a:3:8 c:3:-8", 2}, {"1 a:1:1000 a:1:1000 d:1:-1000 d:1:-1000", 2}, {"1 a:1:5", 1},
			{"99 zzzz:3:1 zzzz:3:-1", 0}, {"3 a:2:1 b:2:2 c:2:3 d:2:-6", 0},
		} {
			was := s
			x := ended(t, s, comes(read(t, c.text)[0]), c.code)
			if storeKept(t, was)(s, false); c.code == 0 {
				tellsBook(t, x, read(t, append(slices.Clone(somePosts), c.text)...))
			}
		}
		for _, p := range append(wrongPosts(), posting(2), posting(2, leg("a", 1, 5), leg("b", 1, -5), leg("c", 1, 0)), impl.Post{}, impl.Post{Id: 2, Legs: []impl.Leg{}}) {
			ended(t, s, comes(p), impl.PostForm)
		}
		if len(impl.LedBook(s)) != 4 {
			t.Error(name)
		}
	}
}

// A balance at its bound, and beyond, with the postings that bring it there in no run and squashed.
func TestLedBalanceAtItsBound(t *testing.T) {
	for _, sign := range []int{1, -1} {
		two := func(id int, n int) string {
			return impl.PostText(posting(id, leg("a", 1, sign*n), leg(string(rune('b'+id)), 1, -sign*n)))
		}
		for name, s := range depths(t, two(1, 1000), two(2, 700), two(3, 299)) {
			if got := impl.LedBal(s, "a", 1); got != sign*1999 {
				t.Errorf("%s: %d", name, got)
			}
			ended(t, s, comes(read(t, two(4, 2))[0]), impl.PostOver)
			ended(t, s, comes(read(t, two(4, 1000))[0]), impl.PostOver)
			x := took(t, s, two(4, 1))
			if got := impl.LedBal(x, "a", 1); got != sign*2000 {
				t.Errorf("%s: %d", name, got)
			}
			for _, x := range []impl.Store{x, ended(t, x, happens(impl.ActFlushes), impl.PostFine)} {
				ended(t, x, comes(read(t, two(5, 1))[0]), impl.PostOver)
				// of another currency, or back, it is taken
				took(t, x, strings.ReplaceAll(two(5, 1000), ":1:", ":2:"), two(6, -1000), two(7, -1000), two(8, -1000), two(9, -1000))
			}
		}
	}
}

// A balance that comes to 0 is still there, squashed and not.
func TestLedBalanceThatComesToNothing(t *testing.T) {
	all := []string{"1 a:1:900 bb:1:-900", "2 a:1:-900 bb:1:900", "3 cc:2:5 cc:2:-5"}
	for name, s := range depths(t, all...) {
		if got := impl.LedAccts(s); !slices.Equal(got, []string{"a", "bb", "cc"}) {
			t.Errorf("%s: %q", name, got)
		}
		for _, key := range []string{"b/a/1", "b/bb/1", "b/cc/2"} {
			if got := impl.TreeCell(s.Tree, key, s.Tree.Seq); got != has("", 0) {
				t.Errorf("%s: %q has %v", name, key, got)
			}
		}
		x := took(t, s, "4 a:1:1 cc:1:-1")
		tellsBook(t, x, read(t, append(slices.Clone(all), "4 a:1:1 cc:1:-1")...))
		down := ended(t, x, happens(impl.ActBreaks, 0), impl.PostFine)
		tellsBook(t, ended(t, down, happens(impl.ActOpens), impl.PostFine), read(t, append(slices.Clone(all), "4 a:1:1 cc:1:-1")...))
	}
}

func TestLedOf40PostingsAndOneMore(t *testing.T) {
	s := impl.StoreNew()
	var b []impl.Post
	for i := range 40 {
		p := posting((7*i)%100, leg(string(rune('a'+i%26)), 1+i%3, 10), leg("cash", 1+i%3, -10))
		s = ended(t, s, comes(p), impl.PostFine)
		b = append(b, p)
		tellsBook(t, s, b)
		if i%8 == 7 {
			s = ended(t, s, happens(impl.ActFlushes), impl.PostFine)
		}
		if i%16 == 15 {
			s = ended(t, s, happens(impl.ActCompacts, 0, 0), impl.PostFine)
		}
		if i == 31 {
			s = ended(t, s, happens(impl.ActCompacts, 1, 1), impl.PostFine)
		}
	}
	more := posting(1, leg("a", 1, 1), leg("cash", 1, -1))
	for range 3 {
		ended(t, s, comes(more), impl.PostFull)
		// the reasons that are listed ahead of it
		ended(t, s, comes(posting(7, leg("a", 1, 1), leg("cash", 1, -1))), impl.PostTwice)
		ended(t, s, comes(posting(1, leg("a", 1, 1000), leg("a", 1, 1000), leg("cash", 1, -1000), leg("cash", 1, -1000))), impl.PostOver)
		ended(t, s, comes(posting(1, leg("a", 1, 1))), impl.PostForm)
		s = ended(t, s, happens(impl.ActFalls, 0), impl.PostFine)
		ended(t, s, comes(more), impl.PostDown)
		s = ended(t, s, happens(impl.ActOpens), impl.PostFine)
		tellsBook(t, s, b)
		s = ended(t, s, happens(impl.ActCompacts, 0, 0), impl.PostFine)
		s = wrote(t, s, put("n", 0, "", 40))
		s = ended(t, s, happens(impl.ActFlushes), impl.PostFine)
	}
	// 41 postings in the keys are no book
	x := wrote(t, s, handBatch(more, 40)...)
	if tellsNone(t, x); len(impl.LedBook(x)) != 0 {
		t.Errorf("%v", impl.LedBook(x))
	}
	// one that was lost may come again, as the last
	x = impl.StoreNew()
	for i, p := range b {
		x = ended(t, x, comes(p), impl.PostFine)
		if i%10 == 8 {
			x = ended(t, x, happens(impl.ActFlushes), impl.PostFine)
		}
	}
	ended(t, x, comes(more), impl.PostFull)
	x = ended(t, x, happens(impl.ActFalls, len(x.Disk.Log)-1), impl.PostFine)
	x = ended(t, x, happens(impl.ActOpens), impl.PostFine)
	tellsBook(t, x, b[:39])
	x = ended(t, x, comes(more), impl.PostFine)
	ended(t, x, comes(b[39]), impl.PostFull)
}

// A posting has 3 entries and one for each leg: they all have room, or none comes.
func TestLedPostOfAMemWithJustRoom(t *testing.T) {
	free := func(n int) impl.Store { // so many entries have room in Mem
		s := took(t, impl.StoreNew(), "0 a:1:1 b:1:-1")
		for len(s.Tree.Mem) < 60-n {
			s = wrote(t, s, slices.Repeat(timeless(add("b/a/1", 0, 0)), min(12, 60-n-len(s.Tree.Mem)))...)
		}
		return s
	}
	legs := []impl.Leg{leg("a", 1, 1), leg("b", 1, -1), leg("a", 2, 5), leg("c", 2, -5)}
	three := []impl.Leg{leg("a", 1, 2), leg("b", 1, -1), leg("d", 1, -1)}
	for n := range 9 {
		s := free(n)
		tellsBook(t, s, read(t, "0 a:1:1 b:1:-1"))
		for _, p := range []impl.Post{posting(1, legs[:2]...), posting(1, three...), posting(1, legs...)} {
			code := impl.PostFine
			if 3+len(p.Legs) > n {
				code = impl.PostRoom
			}
			x := ended(t, s, comes(p), code)
			if code == impl.PostFine {
				tellsBook(t, x, append(read(t, "0 a:1:1 b:1:-1"), p))
				continue
			}
			// behind a flush there is room again
			x = ended(t, x, happens(impl.ActFlushes), impl.PostFine)
			tellsBook(t, ended(t, x, comes(p), impl.PostFine), append(read(t, "0 a:1:1 b:1:-1"), p))
		}
		// what the book refuses is refused for that
		ended(t, s, comes(posting(0, legs[:2]...)), impl.PostTwice)
		ended(t, s, comes(posting(1, legs[:1]...)), impl.PostForm)
		ended(t, s, comes(posting(1, leg("a", 1, 1000), leg("a", 1, 1000), leg("b", 1, -1000), leg("b", 1, -1000))), impl.PostOver)
	}
	s := impl.StoreNew()
	for i := range 12 {
		s = took(t, s, fmt.Sprintf("%d a:1:1 b:1:-1", i))
	}
	if len(s.Tree.Mem) != 60 {
		t.Fatalf("%d", len(s.Tree.Mem))
	}
	ended(t, s, comes(read(t, "12 a:1:1 b:1:-1")[0]), impl.PostRoom)
}

func TestLedPostOfALogWithJustRoom(t *testing.T) {
	p := read(t, "7 cash:1:-30 a:1:30 cash:2:1 b:2:-1")[0]
	frame := len(logOf(doneFrom(51, handBatch(p, 0)...)))
	for _, size := range []int{11000, 11999, 12000, 12001, 12002} {
		s := impl.StoreNew()
		s.Tree.Seq, s.Disk.Seq, s.Disk.Log = 50, 50, oldLog(t, size-frame)
		tellsBook(t, okStore(t, s), nil)
		if size <= 12000 {
			x := ended(t, s, comes(p), impl.PostFine)
			if tellsBook(t, x, []impl.Post{p}); len(x.Disk.Log) != size {
				t.Errorf("%d, not %d", len(x.Disk.Log), size)
			}
			continue
		}
		x := ended(t, s, comes(p), impl.PostRoom)
		ended(t, x, happens(impl.ActFlushes), impl.PostRoom) // there is nothing in no run
		x = ended(t, x, happens(impl.ActFalls, 20000), impl.PostFine)
		x = ended(t, x, happens(impl.ActOpens), impl.PostFine)
		tellsBook(t, ended(t, x, comes(p), impl.PostFine), []impl.Post{p})
	}
}

func TestLedPostAtTheLastTime(t *testing.T) {
	for _, seq := range []int{99993, 99994, 99995, 99996, 100000} {
		s := impl.StoreNew()
		s.Tree.Seq, s.Disk.Seq = seq, seq
		code := impl.PostFine
		if seq > 99995 {
			code = impl.PostRoom
		}
		x := ended(t, s, comes(read(t, "7 a:1:5 b:1:-5")[0]), code)
		if code == impl.PostFine {
			tellsBook(t, x, read(t, "7 a:1:5 b:1:-5"))
			x = ended(t, x, comes(read(t, "8 a:1:5 b:1:-5")[0]), impl.PostRoom)
			x = ended(t, x, happens(impl.ActFlushes), impl.PostFine)
			ended(t, x, comes(read(t, "8 a:1:5 b:1:-5")[0]), impl.PostRoom)
		}
	}
}

func TestLedPlayOf120ActsAndOneMore(t *testing.T) {
	var acts []impl.Act
	for i := range 40 {
		acts = append(acts, comes(posting(i, leg("a", 1, 1), leg("b", 1, -1))), happens(impl.ActSyncs), happens(impl.ActFlushes))
		if i%4 == 3 {
			acts[len(acts)-2] = happens(impl.ActCompacts, 0, 0)
		}
	}
	s, codes := impl.LedPlay(acts)
	if len(acts) != 120 || len(codes) != 120 || slices.Max(codes) != impl.PostFine || len(impl.LedBook(s)) != 40 || impl.LedBal(s, "a", 1) != 40 {
		t.Errorf("%v, %v", codes, s)
	}
	for _, n := range []int{121, 122, 240, 5000} {
		for _, more := range []impl.Act{happens(impl.ActSyncs), {}, happens(impl.ActOpens)} {
			long := slices.Clone(acts)
			for len(long) < n {
				long = append(long, more)
			}
			if s, codes := impl.LedPlay(long); !impl.StoreSame(s, impl.Store{}) || len(codes) != 0 {
				t.Errorf("%d acts: %v, %v", n, codes, s)
			}
		}
	}
}

// Behind a refused act the others go on.
func TestLedPlayGoesOn(t *testing.T) {
	five := read(t, "5 a:1:5 b:1:-5")[0]
	s, codes := impl.LedPlay([]impl.Act{
		{}, happens(-1), happens(8), comes(five), happens(impl.ActCompacts, 0, 0), happens(impl.ActFlushes), happens(impl.ActFlushes), happens(impl.ActFalls), {Kind: 8, Post: five}, happens(impl.ActFlushes), happens(impl.ActCompacts), happens(impl.ActSyncs),
		happens(impl.ActFalls), happens(impl.ActBreaks), comes(five), happens(impl.ActOpens), comes(five), happens(impl.ActOpens), comes(posting(5)), happens(impl.ActCompacts, 1, 0), happens(impl.ActCompacts, 0, 0), happens(impl.ActCompacts, 1, 1), happens(impl.ActCompacts, 1, 0), happens(impl.ActCompacts, 2, 0),
	})
	if !slices.Equal(codes, []int{1, 1, 1, 0, 6, 0, 6, 0, 1, 6, 6, 0, 0, 0, 5, 0, 2, 0, 1, 6, 0, 6, 0, 6}) {
		t.Errorf("%v", codes)
	}
	tellsBook(t, s, []impl.Post{five})
}

// One that was taken and lost comes again; one that was safe does not.
func TestLedPostThatWasLostComesAgain(t *testing.T) {
	one, two := read(t, "1 a:1:900 b:1:-900")[0], read(t, "2 a:1:1000 c:1:-1000 a:2:3 a:2:-3")[0]
	s := ended(t, impl.StoreNew(), comes(one), impl.PostFine)
	s = ended(t, s, happens(impl.ActSyncs), impl.PostFine)
	s = ended(t, s, comes(two), impl.PostFine)
	safe, size := s.Disk.Safe, len(s.Disk.Log)
	for _, keep := range []int{math.MinInt, -1, 0, safe - 1, safe, safe + 1, (safe + size) / 2, size - 2, size - 1, size, size + 1, 12001, math.MaxInt} {
		x := ended(t, s, happens(impl.ActFalls, keep), impl.PostFine)
		if tellsNone(t, x); len(impl.LedBook(x)) != 0 {
			t.Errorf("%v", x)
		}
		for _, p := range []impl.Post{one, two, {}, posting(3, leg("a", 1, 1), leg("b", 1, -1))} {
			ended(t, x, comes(p), impl.PostDown)
		}
		x = ended(t, x, happens(impl.ActOpens), impl.PostFine)
		ended(t, x, comes(one), impl.PostTwice)
		if keep < size {
			tellsBook(t, x, []impl.Post{one})
			// the place is free, for it, or for another of its Id
			other := ended(t, x, comes(posting(2, leg("c", 1, 2), leg("d", 1, -2))), impl.PostFine)
			tellsBook(t, other, []impl.Post{one, posting(2, leg("c", 1, 2), leg("d", 1, -2))})
			ended(t, other, comes(two), impl.PostTwice)
			x = ended(t, x, comes(two), impl.PostFine)
		}
		tellsBook(t, x, []impl.Post{one, two})
		ended(t, x, comes(two), impl.PostTwice)
		x = ended(t, x, happens(impl.ActFlushes), impl.PostFine)
		tellsBook(t, x, []impl.Post{one, two})
		ended(t, x, comes(two), impl.PostTwice)
	}
}

// Promise 12: a store of six postings, some in runs, some safe and some not, falls with each number of bytes kept, at rest and in a flush; what was lost comes again, and it falls once more.
func TestBehindAnyFallTheBookIsABeginning(t *testing.T) {
	b := read(t, "1 a:1:900 b:1:-900", "7 a:2:5 cash:2:-5 a:1:100 b:1:-100", "0 c:3:8 a:3:-8", "5 a:3:8 c:3:-8", "20 a:1:-900 b:1:900", "99 b:1:100 a:1:-100")
	for _, runs := range []int{1, 4} {
		start := newLedPlay(7)
		for i, p := range b {
			start.does(t, comes(p))
			if i < 2 {
				start.does(t, happens(impl.ActFlushes))
			}
			if i == 0 && runs == 1 {
				start.does(t, happens(impl.ActCompacts, 0, 0))
			}
			if i == 2 {
				start.does(t, happens(impl.ActSyncs))
			}
		}
		if runs == 4 { // so a flush is refused, and a fall in it is one as any
			start = newLedPlay(8)
			for i, p := range b {
				start.does(t, comes(p))
				if i < 4 {
					start.does(t, happens(impl.ActFlushes))
				}
			}
		}
		size := len(start.s.Disk.Log)
		for keep := -1; keep <= size+1; keep++ {
			for _, how := range []int{impl.ActFalls, impl.ActBreaks} {
				p := *start
				p.does(t, happens(how, keep))
				p.does(t, happens(impl.ActOpens))
				there := len(p.book)
				p.posts(t, b)
				if !slices.EqualFunc(p.book, b, impl.PostSame) {
					t.Fatalf("%s, not %s", texts(p.book), texts(b))
				}
				if keep%9 != 0 {
					continue
				}
				for _, again := range []int{0, len(p.s.Disk.Log) - 30, len(p.s.Disk.Log) - 1, len(p.s.Disk.Log)} {
					q := p
					q.does(t, happens(impl.ActFalls+impl.ActBreaks-how, again))
					q.does(t, happens(impl.ActOpens))
					if len(q.book) < there {
						t.Fatalf("%d, and there were %d", len(q.book), there)
					}
					q.posts(t, b)
				}
			}
		}
	}
}

// ledPlay is a store that many things happen to, and the book that is kept beside it.
type ledPlay struct {
	s    impl.Store
	book []impl.Post
	lost []impl.Post
	sure int // how many postings are there whatever falls
	acts []impl.Act
	ends []int
	rnd  uint32
	done map[string]int
}

func newLedPlay(seed uint32) *ledPlay {
	return &ledPlay{s: impl.StoreNew(), rnd: seed*2654435761 + 1, done: map[string]int{}}
}

func (p *ledPlay) next(n int) int {
	p.rnd = p.rnd*1664525 + 1013904223
	return int(p.rnd>>8) % n
}

// does lets something happen, and asks all that is known of the store. Promise 11: postings end as those of the book, or for want of room. Promise 12: what is there behind a fall is a beginning, with all that is sure.
func (p *ledPlay) does(t *testing.T, a impl.Act) int {
	t.Helper()
	was, code := p.s, 0
	p.s, code = acted(t, was, a)
	p.acts, p.ends = append(p.acts[:len(p.acts):len(p.acts)], a), append(p.ends[:len(p.ends):len(p.ends)], code)
	p.done[fmt.Sprintf("kind %d, up %v, %d", a.Kind, was.Up, code)]++
	switch {
	case a.Kind == impl.ActPosts && was.Up:
		h, _ := handBookOf(p.book)
		want := h.code(a.Post)
		if room := len(was.Tree.Mem)+3+len(a.Post.Legs) <= 60; want == impl.PostFine && !room {
			want = impl.PostRoom
		}
		if code != want {
			t.Fatalf("%v: %d, not %d, behind %s in %v", a.Post, code, want, texts(p.book), was)
		}
		if code == impl.PostFine {
			p.book = append(p.book[:len(p.book):len(p.book)], a.Post)
			if slices.ContainsFunc(p.lost, func(o impl.Post) bool { return impl.PostSame(o, a.Post) }) {
				p.done["lost, and taken again"]++
			}
		}
	case a.Kind == impl.ActSyncs && was.Up, a.Kind == impl.ActFlushes && code == impl.PostFine:
		p.sure = len(p.book)
	case a.Kind == impl.ActOpens && !was.Up:
		p.opened(t)
	}
	if p.s.Up {
		tellsBook(t, p.s, p.book)
	} else if tellsNone(t, p.s); len(impl.LedBook(p.s)) != 0 {
		t.Fatalf("%v", p.s)
	}
	return code
}

func (p *ledPlay) opened(t *testing.T) {
	t.Helper()
	n := len(impl.LedBook(p.s))
	if n < p.sure || n > len(p.book) {
		t.Fatalf("%d are sure, of %d, and there are %d: %v", p.sure, len(p.book), n, p.s)
	}
	p.done[fmt.Sprintf("opened, all %v, more than sure %v", n == len(p.book), n > p.sure)]++
	p.lost = append(p.lost[:len(p.lost):len(p.lost)], p.book[n:]...)
	p.book, p.sure = p.book[:n:n], n
}

// posts lets the last one of a book that is there come again, and then those that were lost.
func (p *ledPlay) posts(t *testing.T, b []impl.Post) {
	t.Helper()
	there := len(p.book)
	for i, q := range b[there-1:] {
		want := impl.PostFine
		if i == 0 {
			want = impl.PostTwice
		}
		if code := p.does(t, comes(q)); code != want {
			t.Fatalf("%v: %d, not %d", q, code, want)
		}
	}
}

// How plays go: with balances near their bound, with many postings, and with many accounts, so that there are many keys.
const (
	nearPlay = iota
	longPlay
	widePlay
)

// nextPosting is a new one, one that is there already, or one that was lost.
func (p *ledPlay) nextPosting(how int) impl.Post {
	n := p.next(10)
	switch {
	case n == 0 && len(p.book) > 0:
		return p.book[p.next(len(p.book))]
	case n <= 2 && len(p.lost) > 0:
		return p.lost[p.next(len(p.lost))]
	case how == longPlay:
		n := 1 + p.next(9) - 10*p.next(2)
		return posting(p.next(100), leg("a", 1, n), leg("b", 1, -n))
	case how == widePlay:
		acct := func() string { return string([]byte{byte('a' + p.next(26)), byte('a' + p.next(26))}) }
		return posting(p.next(100), leg(acct(), 1+p.next(3), 1), leg(acct(), 1, -2), leg(acct(), 1, 2), leg(acct(), 1, -1))
	}
	return nextPost(&p.rnd)
}

func (p *ledPlay) step(t *testing.T, how int) {
	t.Helper()
	n, log := p.next(100), len(p.s.Disk.Log)
	if how == longPlay {
		n = n * 87 / 100 // falls are few
	}
	if !p.s.Up && p.next(3) > 0 {
		n = 98 // to be opened
	}
	switch {
	case n < 52:
		p.does(t, comes(p.nextPosting(how)))
	case n < 60:
		p.does(t, happens(impl.ActSyncs, p.next(3)))
	case n < 71:
		p.does(t, happens(impl.ActFlushes, p.next(3)))
	case n < 85:
		p.does(t, happens(impl.ActCompacts, p.next(5)/2, p.next(5)-1))
	case n < 90:
		p.does(t, happens(impl.ActFalls, p.next(log+20)-10))
	case n < 95:
		p.does(t, happens(impl.ActBreaks, p.next(log+20)-10))
	case n < 99:
		p.does(t, happens(impl.ActOpens))
	default:
		p.does(t, impl.Act{Kind: []int{0, -1, 8, 9}[p.next(4)], Post: nextPost(&p.rnd), A: p.next(3)})
	}
}

// Promises 11 and 12, of many plays, behind each thing that happens.
func TestWhatWasPostedIsWhatThereIs(t *testing.T) {
	done := map[string]int{}
	for seed := range uint32(45) {
		p := newLedPlay(seed)
		for range 120 {
			p.step(t, int(seed%3))
		}
		if p.s.Up {
			tellsBalances(t, p.s, p.book)
		}
		s, codes := impl.LedPlay(p.acts)
		if !impl.StoreSame(s, p.s) || !slices.Equal(codes, p.ends) {
			t.Fatalf("%v, %v, not %v, %v", codes, s, p.ends, p.s)
		}
		for what, n := range p.done {
			done[what] += n
		}
	}
	for _, what := range []string{
		"kind 1, up true, 0", "kind 1, up true, 1", "kind 1, up true, 2", "kind 1, up true, 3", "kind 1, up true, 4", "kind 1, up true, 6", "kind 1, up false, 5",
		"kind 2, up true, 0", "kind 2, up false, 0", "kind 3, up true, 0", "kind 3, up true, 6", "kind 3, up false, 6", "kind 4, up true, 0", "kind 4, up true, 6", "kind 4, up false, 6",
		"kind 5, up true, 0", "kind 5, up false, 0", "kind 6, up true, 0", "kind 6, up false, 0", "kind 7, up true, 0", "kind 7, up false, 0", "kind 0, up true, 1", "kind 8, up true, 1",
		"opened, all true, more than sure true", "opened, all true, more than sure false", "opened, all false, more than sure false", "opened, all false, more than sure true", "lost, and taken again",
	} {
		if done[what] < 5 {
			t.Errorf("%s: %d", what, done[what])
		}
	}
}

// Promises 11 and 12, of all orders in which a few things may happen.
func TestWhatWasPostedIsWhatThereIsInEachOrder(t *testing.T) {
	two := read(t, "1 a:1:900 b:1:-900", "2 a:1:-900 b:1:800 b:1:100")
	done := map[string]int{}
	var each func(p ledPlay, left int)
	each = func(p ledPlay, left int) {
		if left == 0 {
			return
		}
		size := len(p.s.Disk.Log)
		for _, a := range []impl.Act{
			comes(two[0]), comes(two[1]), happens(impl.ActSyncs), happens(impl.ActFlushes), happens(impl.ActCompacts, 0, 0), happens(impl.ActCompacts, 1, 0),
			happens(impl.ActFalls, 0), happens(impl.ActFalls, size-1), happens(impl.ActFalls, size), happens(impl.ActBreaks, 0), happens(impl.ActBreaks, size), happens(impl.ActOpens),
		} {
			q := p
			q.does(t, a)
			each(q, left-1)
		}
	}
	start := newLedPlay(1)
	start.done = done
	each(*start, 3)
	posted := *start
	posted.does(t, comes(two[0]))
	each(posted, 4)
	// from a store with some in each level, and in none
	for _, text := range []string{"5 a:1:1 b:1:-1", "6 a:1:1 b:1:-1", "7 a:1:1 b:1:-1", "8 a:1:-3 b:1:3"} {
		start.does(t, comes(read(t, text)[0]))
		if len(start.book) == 4 {
			continue
		}
		start.does(t, happens(impl.ActFlushes))
		if len(start.book) < 3 {
			start.does(t, happens(impl.ActCompacts, 0, 0))
		}
		if len(start.book) < 2 {
			start.does(t, happens(impl.ActCompacts, 1, 0))
		}
	}
	each(*start, 3)
	for _, what := range []string{"opened, all true, more than sure true", "opened, all true, more than sure false", "opened, all false, more than sure false", "kind 1, up true, 2", "kind 1, up false, 5"} {
		if done[what] < 10 {
			t.Errorf("%s: %d", what, done[what])
		}
	}
}

// turn is what is written to the keys of somePosts, what LedBook is then, and whether the accounts are ok.
type turn struct {
	batch []impl.Entry
	book  []string
	ok    bool
}

func turns() []turn {
	all := somePosts
	with := func(place int, text string) []string {
		b := slices.Clone(all)
		b[place] = text
		return b
	}
	swapped := []string{all[1], all[0], all[2], all[3]}
	turned := "7 cash:2:-5 a:2:5 a:1:100 b:1:-100"
	list := []turn{
		// the count
		{[]impl.Entry{del("n", 0)}, nil, false}, {[]impl.Entry{put("n", 0, "t", 4)}, all, false}, {[]impl.Entry{put("n", 0, "4", 0)}, nil, false}, {[]impl.Entry{put("n", 0, " ", 3)}, all[:3], false},
		{[]impl.Entry{put("n", 0, "", -1)}, nil, false}, {[]impl.Entry{put("n", 0, "", 41)}, nil, false}, {[]impl.Entry{put("n", 0, "", 40)}, nil, false}, {[]impl.Entry{put("n", 0, "", 5)}, nil, false}, {[]impl.Entry{put("n", 0, "", 3)}, all[:3], false},
		{[]impl.Entry{put("n", 0, "", 1)}, all[:1], false}, {[]impl.Entry{put("n", 0, "", 0)}, nil, false}, {[]impl.Entry{add("n", 0, 1)}, nil, false}, {[]impl.Entry{add("n", 0, -1)}, all[:3], false}, {[]impl.Entry{add("n", 0, -4)}, nil, false}, {[]impl.Entry{add("n", 0, -5)}, nil, false},
		{[]impl.Entry{add("n", 0, 1000000)}, nil, false}, {[]impl.Entry{add("n", 0, -1000000)}, nil, false},
		{[]impl.Entry{put("n", 0, "", 4)}, all, true}, {[]impl.Entry{add("n", 0, 0)}, all, true}, {[]impl.Entry{del("n", 0), add("n", 0, 4)}, all, true}, {[]impl.Entry{add("n", 0, 9), add("n", 0, -9)}, all, true},
		// places
		{[]impl.Entry{put("j/01", 0, all[1], 1)}, all, false}, {[]impl.Entry{put("j/01", 0, all[1], -1)}, all, false}, {[]impl.Entry{add("j/01", 0, 1)}, all, false}, {[]impl.Entry{add("j/01", 0, 0)}, all, true}, {[]impl.Entry{add("j/01", 0, 1), add("j/01", 0, -1)}, all, true},
		{[]impl.Entry{put("j/01", 0, all[1], 0)}, all, true}, {[]impl.Entry{del("j/01", 0), put("j/01", 0, all[1], 0)}, all, true}, {[]impl.Entry{del("j/01", 0), add("j/01", 0, 0)}, nil, false},
		{[]impl.Entry{put("j/01", 0, turned, 0)}, with(1, turned), true}, // the same legs, in another order
		{[]impl.Entry{put("j/01", 0, "7 a:1:100 b:1:-100", 0)}, with(1, "7 a:1:100 b:1:-100"), false},
		{[]impl.Entry{put("j/01", 0, "7 a:2:6 cash:2:-6 a:1:100 b:1:-100", 0)}, with(1, "7 a:2:6 cash:2:-6 a:1:100 b:1:-100"), false},
		{[]impl.Entry{put("j/01", 0, "8 a:2:5 cash:2:-5 a:1:100 b:1:-100", 0)}, with(1, "8 a:2:5 cash:2:-5 a:1:100 b:1:-100"), false},
		{[]impl.Entry{put("j/01", 0, "8 a:2:5 cash:2:-5 a:1:100 b:1:-100", 0), put("i/08", 0, "", 1)}, with(1, "8 a:2:5 cash:2:-5 a:1:100 b:1:-100"), false},
		{[]impl.Entry{put("j/01", 0, "8 a:2:5 cash:2:-5 a:1:100 b:1:-100", 0), put("i/08", 0, "", 1), del("i/07", 0)}, with(1, "8 a:2:5 cash:2:-5 a:1:100 b:1:-100"), true},
		{[]impl.Entry{put("j/00", 0, all[1], 0), put("j/01", 0, all[0], 0)}, swapped, false},
		{[]impl.Entry{put("j/00", 0, all[1], 0), put("j/01", 0, all[0], 0), put("i/07", 0, "", 0), put("i/01", 0, "", 1)}, swapped, true},
		// postings that are no book
		{[]impl.Entry{put("j/01", 0, all[0], 0)}, nil, false}, {[]impl.Entry{put("j/01", 0, "7 a:1:100 b:1:-99", 0)}, nil, false}, {[]impl.Entry{put("j/01", 0, "7 a:1:100", 0)}, nil, false}, {[]impl.Entry{put("j/01", 0, "7 a:1:1000 a:1:101 b:1:-1000 b:1:-101", 0)}, nil, false},
		{[]impl.Entry{put("j/03", 0, "0 a:3:8 c:3:-8", 0)}, nil, false},
		// another posting, and all its keys
		{timeless(handBatch(posting(9, leg("a", 1, 5), leg("d", 1, -5)), 4)...), append(slices.Clone(all), "9 a:1:5 d:1:-5"), true},
		{timeless(handBatch(posting(9, leg("a", 1, 5), leg("d", 1, -5)), 5)...), nil, false},
		{timeless(handBatch(posting(9, leg("a", 1, 5), leg("d", 1, -5)), 3)...), nil, false},
		{timeless(handBatch(posting(9, leg("a", 1, 5), leg("d", 1, -4)), 4)...), nil, false},
		{timeless(handBatch(posting(1, leg("a", 1, 5), leg("d", 1, -5)), 4)...), nil, false},
		{timeless(handBatch(posting(9, leg("a", 1, 1000), leg("a", 1, 1), leg("d", 1, -1000), leg("d", 1, -1)), 4)...), nil, false},
		// the last one taken away, and all its keys
		{timeless(add("n", 0, -1), del("j/03", 0), del("i/05", 0), add("b/a/3", 0, -8), add("b/c/3", 0, 8)), all[:3], true},
		{timeless(add("n", 0, -1), del("j/03", 0), del("i/05", 0), add("b/a/3", 0, -8)), all[:3], false},
		{timeless(add("n", 0, -1), del("j/03", 0), add("b/a/3", 0, -8), add("b/c/3", 0, 8)), all[:3], false},
		{timeless(add("n", 0, -1), del("i/05", 0), add("b/a/3", 0, -8), add("b/c/3", 0, 8)), all[:3], false},
		{timeless(del("j/03", 0), del("i/05", 0), add("b/a/3", 0, -8), add("b/c/3", 0, 8)), nil, false},
		// balances
		{[]impl.Entry{put("b/a/1", 0, "", 1000)}, all, true}, {[]impl.Entry{add("b/a/1", 0, 0)}, all, true}, {[]impl.Entry{del("b/a/1", 0), add("b/a/1", 0, 1000)}, all, true}, {[]impl.Entry{put("b/a/3", 0, "", 0)}, all, true},
		{[]impl.Entry{put("b/a/1", 0, "t", 1000)}, all, false}, {[]impl.Entry{put("b/a/1", 0, "", 999)}, all, false}, {[]impl.Entry{put("b/a/1", 0, "", -1000)}, all, false}, {[]impl.Entry{add("b/a/1", 0, 1)}, all, false}, {[]impl.Entry{put("b/a/3", 0, "t", 0)}, all, false}, {[]impl.Entry{put("b/a/3", 0, "", 1)}, all, false},
		{[]impl.Entry{add("b/a/1", 0, 1000), add("b/b/1", 0, -1000)}, all, false},
		// keys that have had something
		{[]impl.Entry{del("x", 0)}, all, true}, {[]impl.Entry{put("x", 0, "t", 5), del("x", 0)}, all, true}, {[]impl.Entry{add("j/04", 0, 5), del("j/04", 0)}, all, true},
	}
	for place, id := range []int{1, 7, 0, 5} {
		log, of := fmt.Sprintf("j/%02d", place), fmt.Sprintf("i/%02d", id)
		list = append(list, turn{[]impl.Entry{del(log, 0)}, nil, false}, turn{[]impl.Entry{del(of, 0)}, all, false}, turn{[]impl.Entry{put(of, 0, "", place)}, all, true})
		for _, text := range []string{"", " ", "7", all[place] + " ", " " + all[place], "0" + all[place], strings.Repeat("t", 60), "\x00\xff"} {
			list = append(list, turn{[]impl.Entry{put(log, 0, text, 0)}, nil, false})
		}
		for _, e := range []impl.Entry{put(of, 0, "t", place), put(of, 0, "", place+1), put(of, 0, "", place-1), add(of, 0, 1), add(of, 0, -1), put(of, 0, all[place], 0)} {
			list = append(list, turn{[]impl.Entry{e}, all, false})
		}
	}
	for _, key := range []string{"b/a/1", "b/a/2", "b/a/3", "b/b/1", "b/c/3", "b/cash/2"} {
		list = append(list, turn{[]impl.Entry{del(key, 0)}, all, false})
	}
	for _, key := range []string{"x", "a", "n/", "nn", "0", "/", "zzzzzzzz", "j/04", "j/40", "j/99", "j/1", "j/001", "i/02", "i/99", "i/1", "b/d/1", "b/b/2", "b/b/3", "b/a/0", "b/a/4", "b/a", "b/a/", "b/a/1/", "b//1", "b/a/01", "b/cash/1", "i", "j", "b"} {
		for _, e := range []impl.Entry{put(key, 0, "", 0), put(key, 0, "t", 0), put(key, 0, "", 1), add(key, 0, 0), add(key, 0, 1), put(key, 0, all[0], 0)} {
			list = append(list, turn{[]impl.Entry{e}, all, false})
		}
	}
	return list
}

// wherever is a store, and what it is flushed and compacted.
func wherever(t *testing.T, s impl.Store) []impl.Store {
	t.Helper()
	flat := flushed(t, s)
	low, ok := impl.StoreCompact(flat, 0, 0)
	if !ok {
		t.Fatalf("%v", flat)
	}
	return []impl.Store{s, flat, okStore(t, low)}
}

// ledActs is something of each kind, and of some that are none.
func ledActs() []impl.Act {
	acts := []impl.Act{comes(posting(50, leg("a", 1, 1), leg("b", 1, -1))), comes(posting(1, leg("a", 1, 1), leg("b", 1, -1))), comes(impl.Post{}), happens(impl.ActCompacts, 1, 0), happens(impl.ActFalls, 50), happens(impl.ActBreaks, -1)}
	for _, kind := range []int{0, 1, 2, 3, 4, 5, 6, 7, 8, 9, -1, math.MinInt, math.MaxInt} {
		acts = append(acts, happens(kind))
	}
	return acts
}

// noLed says that a store has no accounts: nothing is done to it, and nothing told.
func noLed(t *testing.T, s impl.Store, acts []impl.Act) {
	t.Helper()
	tellsNone(t, s)
	for _, a := range acts {
		got, code := impl.LedDo(s, a)
		if code != impl.PostForm || !impl.StoreSame(got, impl.Store{}) {
			t.Fatalf("%v: %d, %v of %v", a, code, got, s)
		}
		if a.Kind != impl.ActPosts {
			continue
		}
		got, code = impl.LedPost(s, a.Post)
		want, by := handLedPost(s, a.Post)
		if code != by || !impl.StoreSame(got, want) {
			t.Fatalf("LedPost of %v: %d, not %d, %v of %v", a, code, by, got, s)
		}
	}
}

func TestLedOkOfKeysThatAreTurned(t *testing.T) {
	acts := ledActs()
	for name, base := range depths(t, somePosts...) {
		for i, c := range turns() {
			for _, s := range wherever(t, wrote(t, base, c.batch...)) {
				if got := impl.LedOk(s); got != c.ok || handLedOk(s) != c.ok {
					t.Fatalf("%v: %v, by hand %v, in %v", c.batch, got, handLedOk(s), s)
				}
				if got := impl.LedBook(s); texts(got) != texts(read(t, c.book...)) {
					t.Fatalf("%v: %s, not %s", c.batch, texts(got), c.book)
				}
				down := impl.StoreFall(s, 99999)
				if got, code := impl.LedPost(down, posting(50, leg("a", 1, 1), leg("b", 1, -1))); code != impl.PostDown || !impl.StoreSame(got, down) {
					t.Fatalf("%v, not up: %d, %v", c.batch, code, got)
				}
				if tellsNone(t, down); len(impl.LedBook(down)) != 0 {
					t.Fatalf("%v", impl.LedBook(down))
				}
				if c.ok {
					tellsBook(t, s, read(t, c.book...))
					continue
				}
				some := acts[i%len(acts):][:1]
				if name == "on level 1" {
					some = acts
				}
				noLed(t, s, some)
				noLed(t, down, some)
			}
		}
	}
}

// Of accounts that are ok, however they came to be so, each kind of what happens is done.
func TestLedDoOfKeysThatAreTurned(t *testing.T) {
	for _, base := range depths(t, somePosts...) {
		for _, c := range turns() {
			if !c.ok {
				continue
			}
			s := wrote(t, base, c.batch...)
			for _, a := range ledActs() {
				x, _ := acted(t, s, a)
				down := ended(t, x, happens(impl.ActFalls, 300), impl.PostFine)
				if impl.LedOk(impl.StoreOpen(down)) {
					acted(t, down, a)
				}
			}
		}
	}
}

// A posting that is there by half is none: each part of its entries, without the others.
func TestLedOkOfAPostingByHalf(t *testing.T) {
	s := took(t, impl.StoreNew(), somePosts...)
	batch := handBatch(posting(9, leg("a", 1, 5), leg("d", 2, -7), leg("d", 2, 7), leg("e", 1, -5)), 4)
	for part := range 1 << len(batch) {
		var some []impl.Entry
		for i, e := range batch {
			if part>>i&1 == 1 {
				some = append(some, e)
			}
		}
		x := s
		if len(some) > 0 {
			x = wrote(t, s, some...)
		}
		// both legs of d together bring nothing, but its key has to be there
		legs := part>>3&1 == 1 && part>>6&1 == 1 && part>>4&1 == 1 && part>>5&1 == 1
		want := part == 0 || part&7 == 7 && legs
		if got := impl.LedOk(x); got != want || handLedOk(x) != want {
			t.Errorf("%v: %v", some, got)
		}
	}
}

// Times that a store's tree keeps do not turn its accounts.
func TestLedOfAStoreWithTimesThatAreKept(t *testing.T) {
	s := impl.StoreNew()
	for i, text := range somePosts {
		s = took(t, s, text)
		s.Tree = fine(t)(impl.TreeSnap(s.Tree))
		if i%2 == 1 {
			s = ended(t, s, happens(impl.ActFlushes), impl.PostFine)
		}
		tellsBook(t, okStore(t, s), read(t, somePosts[:i+1]...))
	}
	s = ended(t, s, happens(impl.ActCompacts, 0, 0), impl.PostFine)
	s = took(t, s, "9 a:1:1 b:1:-1")
	tellsBook(t, s, read(t, append(slices.Clone(somePosts), "9 a:1:1 b:1:-1")...))
	s = ended(t, s, happens(impl.ActFalls, 0), impl.PostFine)
	tellsBook(t, ended(t, s, happens(impl.ActOpens), impl.PostFine), read(t, somePosts...))
}

func TestLedOfStoresThatAreNotOk(t *testing.T) {
	stores := wrongStores(t)
	for name, s := range depths(t, somePosts...) {
		for how, x := range turnedStores(s) {
			if !handStoreOk(x) {
				stores[name+", "+how] = x
			}
		}
	}
	if len(stores) < 200 {
		t.Errorf("%d", len(stores))
	}
	for name, s := range stores {
		if len(impl.LedBook(s)) != 0 {
			t.Errorf("%s: %v", name, impl.LedBook(s))
		}
		noLed(t, s, ledActs())
		if got, code := impl.LedPost(s, posting(50, leg("a", 1, 1), leg("b", 1, -1))); code != impl.PostForm || !impl.StoreSame(got, impl.Store{}) {
			t.Errorf("%s: %d, %v", name, code, got)
		}
	}
	// those that are turned, and ok
	for _, s := range depths(t, somePosts...) {
		for how, x := range turnedStores(s) {
			if !handStoreOk(x) {
				continue
			}
			if got, want := impl.LedOk(x), handLedOk(x); got != want {
				t.Fatalf("%s: %v", how, got)
			}
			b, _ := handLedBook(x)
			if got := impl.LedBook(x); texts(got) != texts(b) {
				t.Fatalf("%s: %s, not %s", how, texts(got), texts(b))
			}
			for _, a := range ledActs() {
				want, by := handLedDo(x, a)
				if got, code := impl.LedDo(x, a); code != by || !impl.StoreSame(got, want) {
					t.Fatalf("%s, %v: %d, not %d, %v", how, a, code, by, got)
				}
			}
		}
	}
}

// Kinds, levels, places and numbers of bytes that are none: the store as it was, with its code.
func TestLedDoOfWrongActs(t *testing.T) {
	odd := []int{math.MinInt, -2, -1, 2, 3, 8, 12001, math.MaxInt}
	p := posting(50, leg("a", 1, 1), leg("b", 1, -1))
	for name, s := range depths(t, somePosts...) {
		down := ended(t, s, happens(impl.ActFalls, 100), impl.PostFine)
		for _, kind := range []int{math.MinInt, -1, 0, 8, 9, 100, math.MaxInt} {
			for _, x := range []impl.Store{s, down} {
				storeKept(t, x)(ended(t, x, impl.Act{Kind: kind, Post: p, A: 1, B: 1}, impl.PostForm), false)
			}
		}
		for _, n := range odd {
			storeKept(t, s)(ended(t, s, happens(impl.ActCompacts, n, 0), impl.PostRoom), false)
			storeKept(t, s)(ended(t, s, happens(impl.ActCompacts, 1, n), impl.PostRoom), false)
			storeKept(t, down)(ended(t, down, happens(impl.ActCompacts, 0, n), impl.PostRoom), false)
			// of the first level all runs are taken, whatever the place
			x, ok := impl.StoreCompact(s, 0, n)
			code := impl.PostFine
			if !ok {
				code = impl.PostRoom
			}
			storeKept(t, x)(ended(t, s, happens(impl.ActCompacts, 0, n), code), false)
			for _, how := range []int{impl.ActFalls, impl.ActBreaks} {
				fell := ended(t, s, happens(how, n), impl.PostFine)
				if fell.Up {
					t.Errorf("%s: %v", name, fell)
				}
				storeKept(t, fell)(ended(t, fell, happens(how, n), impl.PostFine), false)
			}
		}
		storeKept(t, down)(ended(t, down, happens(impl.ActSyncs), impl.PostFine), false)
		storeKept(t, down)(ended(t, down, happens(impl.ActFlushes), impl.PostRoom), false)
		storeKept(t, down)(ended(t, down, comes(p), impl.PostDown), false)
		storeKept(t, s)(ended(t, s, happens(impl.ActOpens), impl.PostFine), false)
	}
}

func TestLedBalOfWhatIsNone(t *testing.T) {
	for name, s := range depths(t, somePosts...) {
		wrong := wrote(t, s, put("x", 0, "", 0))
		for _, acct := range ledAccts {
			for _, cur := range ledCurs {
				if got, want := impl.LedBal(s, acct, cur), impl.BookBal(read(t, somePosts...), acct, cur); got != want {
					t.Errorf("%s: %q has %d of %d", name, acct, got, cur)
				}
				for _, x := range []impl.Store{{}, wrong, impl.StoreFall(s, 99999), impl.StoreNew()} {
					if got := impl.LedBal(x, acct, cur); got != 0 {
						t.Errorf("%s: %q has %d of %d in %v", name, acct, got, cur, x)
					}
				}
			}
		}
	}
}

// roomyLed is a store with accounts, in each level and in no run, whose lists are longer than they are told to be; and all that is in that memory, as a text.
func roomyLed(t *testing.T) (impl.Store, func() string) {
	t.Helper()
	s := impl.StoreNew()
	for i := range 4 {
		s = took(t, s, fmt.Sprintf("%d aa:1:%d cash:1:-%d", i, i+1, i+1))
		if i < 3 {
			s = flushed(t, s)
		}
		if i < 2 {
			s, _ = impl.StoreCompact(s, 0, 0)
		}
		if i < 1 {
			s, _ = impl.StoreCompact(s, 1, 0)
		}
	}
	s = impl.StoreSync(s)
	s = took(t, s, "9 cash:2:7 aa:2:-7")
	var rooms []func() string
	ents := func(list []impl.Entry) []impl.Entry {
		room := append(make([]impl.Entry, 0, len(list)+3), list...)
		room = append(room, put("spare", 1, "spare", 1), put("spare", 1, "spare", 1))
		rooms = append(rooms, func() string { return fmt.Sprint(room[:cap(room)]) })
		return room[:len(list)]
	}
	levels := func(all [][]impl.Run) [][]impl.Run {
		var own [][]impl.Run
		for _, runs := range all {
			var room []impl.Run
			for _, r := range runs {
				room = append(room, impl.Run{Ents: ents(r.Ents), Mask: r.Mask})
			}
			room = append(room, impl.Run{Mask: 5}, impl.Run{Mask: 6})
			rooms = append(rooms, func() string { return fmt.Sprint(room[:cap(room)]) })
			own = append(own, room[:len(runs)])
		}
		own = append(own, []impl.Run{{Mask: 7}})
		rooms = append(rooms, func() string { return fmt.Sprint(own[:cap(own)]) })
		return own[:3]
	}
	snaps := []int{5, 10, 77, 78}
	s.Tree.Mem, s.Tree.Snaps, s.Tree.Levels, s.Disk.Levels = ents(s.Tree.Mem), snaps[:2], levels(s.Tree.Levels), levels(s.Disk.Levels)
	for level, runs := range s.Tree.Levels {
		if len(runs) == 0 {
			t.Fatalf("level %d of %v", level, s)
		}
	}
	return okStore(t, s), func() string {
		all := fmt.Sprint(s, snaps)
		for _, room := range rooms {
			all += room()
		}
		return all
	}
}

// roomyActs is acts with room behind the ends of their lists, and all that is in that memory.
func roomyActs() ([]impl.Act, func() string) {
	legs := []impl.Leg{leg(strings.Clone("cash"), 1, 3), leg(strings.Clone("bb"), 1, -3), leg("spare", 9, 9), leg("spare", 9, 9)}
	acts := []impl.Act{comes(impl.Post{Id: 50, Legs: legs[:2]}), comes(impl.Post{Id: 50, Legs: legs[:3]}), comes(impl.Post{Id: 1, Legs: legs[:2]}), happens(2), happens(3), happens(4, 0, 0), happens(4, 1, 0), happens(5, 120), happens(7), happens(6, 3), happens(0), comes(impl.Post{Id: 77, Legs: legs[:2]}), happens(9)}
	return acts[:11], func() string { return fmt.Sprint(acts, legs) }
}

// postSpans is the memory of all lists and texts of postings, spare room included.
func postSpans(b []impl.Post) []span {
	from := uintptr(unsafe.Pointer(unsafe.SliceData(b)))
	all := []span{{from, from + uintptr(cap(b))*unsafe.Sizeof(impl.Post{}), "postings"}}
	for _, p := range b {
		from := uintptr(unsafe.Pointer(unsafe.SliceData(p.Legs)))
		all = append(all, span{from, from + uintptr(cap(p.Legs))*unsafe.Sizeof(impl.Leg{}), "legs"})
		for _, l := range p.Legs {
			all = append(all, textSpan(l.Acct))
		}
	}
	return all
}

func textSpan(text string) span {
	from := uintptr(unsafe.Pointer(unsafe.StringData(text)))
	return span{from, from + uintptr(len(text)), "text " + text}
}

func TestLedWritesNothingIntoWhatItIsGiven(t *testing.T) {
	up, upMemory := roomyLed(t)
	wrong, wrongMemory := roomyLed(t)
	wrong.Tree.Seq++
	down, _ := roomyLed(t)
	down = impl.StoreFall(down, 150)
	downMemory := func() string { return fmt.Sprint(down) }
	acts, actMemory := roomyActs()
	wereActs := actMemory()
	for _, given := range []struct {
		s      impl.Store
		memory func() string
	}{{up, upMemory}, {wrong, wrongMemory}, {down, downMemory}} {
		was := given.memory()
		same := func(name string) {
			t.Helper()
			if now := given.memory(); now != was {
				t.Fatalf("%s wrote into its store: %s, not %s", name, now, was)
			}
			if now := actMemory(); now != wereActs {
				t.Fatalf("%s wrote into its act: %s, not %s", name, now, wereActs)
			}
		}
		for _, a := range acts {
			want, by := handLedDo(given.s, a)
			if got, code := impl.LedDo(given.s, a); code != by || !impl.StoreSame(got, want) {
				t.Fatalf("%v: %d, %v", a, code, got)
			}
			same(fmt.Sprint("LedDo ", a.Kind))
			impl.LedPost(given.s, a.Post)
			same("LedPost")
		}
		impl.LedBook(given.s)
		impl.LedOk(given.s)
		impl.LedBal(given.s, "cash", 1)
		impl.LedAccts(given.s)
		same("asking")
	}
	impl.LedPlay(acts)
	if now := actMemory(); now != wereActs {
		t.Fatalf("LedPlay wrote into its acts: %s, not %s", now, wereActs)
	}
}

func TestLedGivesNewMemory(t *testing.T) {
	up, _ := roomyLed(t)
	down, _ := roomyLed(t)
	down.Disk.Log = strings.Clone(down.Disk.Log)
	down = okStore(t, impl.Store{Disk: down.Disk})
	acts, _ := roomyActs()
	for _, s := range []impl.Store{up, down} {
		given := storeSpans(s)
		for _, a := range acts {
			given = append(given, postSpans([]impl.Post{a.Post})[1:]...)
		}
		for _, a := range acts {
			got, _ := impl.LedDo(s, a)
			apartFrom(t, fmt.Sprint("LedDo ", a.Kind), storeSpans(got), given)
			got, _ = impl.LedPost(s, a.Post)
			apartFrom(t, "LedPost", storeSpans(got), given)
		}
	}
	given := storeSpans(up)
	b := impl.LedBook(up)
	accts := impl.LedAccts(up)
	if len(b) != 5 || !slices.Equal(accts, []string{"aa", "cash"}) {
		t.Fatalf("%v, %v", b, accts)
	}
	from := uintptr(unsafe.Pointer(unsafe.SliceData(accts)))
	got := append(postSpans(b), span{from, from + uintptr(cap(accts))*unsafe.Sizeof(""), "accounts"})
	for _, acct := range accts {
		got = append(got, textSpan(acct))
	}
	apartFrom(t, "LedBook and LedAccts", got, given)
	spoil(t, b)
	tellsBook(t, up, read(t, "0 aa:1:1 cash:1:-1", "1 aa:1:2 cash:1:-2", "2 aa:1:3 cash:1:-3", "3 aa:1:4 cash:1:-4", "9 cash:2:7 aa:2:-7"))
	s, codes := impl.LedPlay(acts)
	from = uintptr(unsafe.Pointer(unsafe.SliceData(codes)))
	got = append(storeSpans(s), span{from, from + uintptr(cap(codes))*unsafe.Sizeof(0), "codes"})
	given = nil
	for _, a := range acts {
		given = append(given, postSpans([]impl.Post{a.Post})[1:]...)
	}
	apartFrom(t, "LedPlay", got, given)
}

// Nothing is kept between two calls, and nothing hangs on the order in which a map is gone through.
func TestLedAnswersAlwaysTheSame(t *testing.T) {
	acts, _ := roomyActs()
	want, codes := impl.LedPlay(acts)
	s := took(t, impl.StoreNew(), "1 a:1:700 b:1:-300 c:1:-400", "2 d:1:20 e:1:-20", "3 a:2:9 f:2:-9", "4 g:1:6 h:1:-6")
	for range 100 {
		if got := impl.LedAccts(s); !slices.Equal(got, []string{"a", "b", "c", "d", "e", "f", "g", "h"}) {
			t.Fatalf("%q", got)
		}
		if got, ends := impl.LedPlay(acts); !impl.StoreSame(got, want) || !slices.Equal(ends, codes) {
			t.Fatalf("%v, %v", ends, got)
		}
	}
}
