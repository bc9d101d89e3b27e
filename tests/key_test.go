package tests

import (
	"math"
	"slices"
	"strings"
	"testing"
	"unsafe"

	"loop.example/comptoir/impl"
)

func put(key string, seq int, text string, n int) impl.Entry {
	return impl.Entry{Key: key, Seq: seq, Kind: impl.EntPut, Text: text, N: n}
}

func del(key string, seq int) impl.Entry { return impl.Entry{Key: key, Seq: seq, Kind: impl.EntDel} }

func add(key string, seq int, n int) impl.Entry {
	return impl.Entry{Key: key, Seq: seq, Kind: impl.EntAdd, N: n}
}

// ofKind is an entry of any Kind, with all parts.
func ofKind(key string, seq int, kind int, text string, n int) impl.Entry {
	return impl.Entry{Key: key, Seq: seq, Kind: kind, Text: text, N: n}
}

func has(text string, n int) impl.Cell { return impl.Cell{Has: true, Text: text, N: n} }

var noKinds = []int{0, 4, -1, 5, 100, 257, math.MinInt, math.MaxInt}

func TestKeyOk(t *testing.T) {
	for _, s := range []string{"a", "z", "0", "9", "/", "n", "b/cash/3", "i/07", "abcdefgh", "////////", "00000000", "z9/z9/z9"} {
		if !impl.KeyOk(s) {
			t.Errorf("%q is a key", s)
		}
	}
	for n := 0; n <= 12; n++ {
		for _, s := range []string{"a", "/", "7"} {
			if impl.KeyOk(strings.Repeat(s, n)) != (n >= 1 && n <= 8) {
				t.Errorf("%q %d times", s, n)
			}
		}
	}
	wrong := []string{"", "abcdefghi", "b/abcde/1", "a:b", "A", "a b", "a\n", "\u00e9", "a\u0430", "\uff41", "\u0661", "a\xff", "\x00", strings.Repeat("a", 1<<20), strings.Repeat("\xff", 1<<20)}
	for _, s := range wrong {
		if impl.KeyOk(s) {
			t.Errorf("%.20q is no key", s)
		}
	}
	for b := range 256 {
		c := string([]byte{byte(b)})
		want := strings.Contains("abcdefghijklmnopqrstuvwxyz0123456789/", c)
		for _, s := range []string{c, c + "b", "b" + c, "abcdefg" + c, c + "bcdefgh", "ab" + c + "/9"} {
			if impl.KeyOk(s) != want {
				t.Errorf("%q: %v", s, !want)
			}
		}
	}
}

func TestKeysAreWritten(t *testing.T) {
	for _, c := range []struct{ got, want string }{
		{impl.KeyBal("a", 1), "b/a/1"}, {impl.KeyBal("ab", 2), "b/ab/2"}, {impl.KeyBal("cash", 3), "b/cash/3"}, {impl.KeyBal("zzzz", 1), "b/zzzz/1"},
		{impl.KeyId(0), "i/00"}, {impl.KeyId(7), "i/07"}, {impl.KeyId(9), "i/09"}, {impl.KeyId(10), "i/10"}, {impl.KeyId(58), "i/58"}, {impl.KeyId(99), "i/99"},
		{impl.KeyLog(0), "j/00"}, {impl.KeyLog(7), "j/07"}, {impl.KeyLog(9), "j/09"}, {impl.KeyLog(10), "j/10"}, {impl.KeyLog(39), "j/39"}, {impl.KeyLog(99), "j/99"},
	} {
		if c.got != c.want {
			t.Errorf("%q, not %q", c.got, c.want)
		}
	}
}

func TestKeysOfWhatIsNone(t *testing.T) {
	for _, cur := range []int{0, 4, -1, 10, 100, math.MinInt, math.MaxInt} {
		if key := impl.KeyBal("a", cur); key != "" {
			t.Errorf("currency %d: %q", cur, key)
		}
	}
	for _, acct := range []string{"", "abcde", "A", "a1", "1", "/", "a/", "a b", "\u00e9", "\xff", "a\x00", strings.Repeat("a", 1<<20)} {
		for _, cur := range []int{0, 1, 2, 3, 4} {
			if key := impl.KeyBal(acct, cur); key != "" {
				t.Errorf("%.20q, %d: %.20q", acct, cur, key)
			}
		}
	}
	for _, n := range []int{-1, 100, -7, 101, 256, 307, -256, 1 << 32, math.MinInt, math.MaxInt} {
		if impl.KeyId(n) != "" || impl.KeyLog(n) != "" {
			t.Errorf("%d: %q, %q", n, impl.KeyId(n), impl.KeyLog(n))
		}
	}
}

// someAccts is all accounts of these letters, the least first; among them many that begin others.
func someAccts() []string {
	all := []string{""}
	for from := 0; len(all[from]) < 4; from++ {
		for _, c := range []string{"a", "b", "m", "z"} {
			all = append(all, all[from]+c)
		}
	}
	all = all[1:]
	slices.Sort(all)
	return all
}

// Promise 3.
func TestKeysStandInTheOrderOfWhatTheyAreOf(t *testing.T) {
	var all []string
	for _, acct := range someAccts() {
		for cur := 1; cur <= 3; cur++ {
			all = append(all, impl.KeyBal(acct, cur))
		}
	}
	if len(all) != 3*(4+16+64+256) {
		t.Fatal(len(all))
	}
	for n := 0; n <= 99; n++ {
		all = append(all, impl.KeyId(n))
	}
	for n := 0; n <= 99; n++ {
		all = append(all, impl.KeyLog(n))
	}
	all = append(all, "n")
	for i, key := range all {
		if !impl.KeyOk(key) {
			t.Errorf("%q is a key", key)
		}
		// each stands ahead of the next one, so none is there twice
		if i > 0 && !(all[i-1] < key) {
			t.Errorf("%q stands ahead of %q", all[i-1], key)
		}
		if i > 0 && (!impl.EntryLess(del(all[i-1], 1), del(key, 9)) || impl.EntryLess(del(key, 9), del(all[i-1], 1))) {
			t.Errorf("an entry of %q stands ahead of one of %q", all[i-1], key)
		}
	}
}

func TestKeysOfAnAccountThatBeginsAnother(t *testing.T) {
	for _, c := range [][2]string{{"a", "aa"}, {"a", "ab"}, {"a", "az"}, {"ab", "abc"}, {"cas", "cash"}, {"a", "aaaa"}, {"z", "zz"}} {
		for x := 1; x <= 3; x++ {
			for y := 1; y <= 3; y++ {
				if a, b := impl.KeyBal(c[0], x), impl.KeyBal(c[1], y); !(a < b) {
					t.Errorf("%q stands ahead of %q", a, b)
				}
			}
		}
	}
}

func TestEntryOk(t *testing.T) {
	t60 := strings.Repeat("t", 60)
	for _, e := range []impl.Entry{
		put("a", 1, "text", 5), put("b/cash/3", 100000, t60, 1000000), put("a", 7, "", -1000000), put("a", 7, "", 0), put("a", 7, "\xff\x00\n", 0), put("a", 7, strings.Repeat("\xff", 60), 0),
		del("a", 1), del("abcdefgh", 100000), add("n", 1, 1), add("n", 2, 1000000), add("n", 3, -1000000), add("n", 4, 0),
	} {
		if !impl.EntryOk(e) {
			t.Errorf("%v is ok", e)
		}
	}
	wrong := []impl.Entry{
		{},
		// keys
		put("", 1, "", 5), put("abcdefghi", 1, "", 5), put("a:b", 1, "", 5), put("A", 1, "", 5), put("\xff", 1, "", 5), del("", 1), add("", 1, 1), add("a b", 1, 1),
		// times
		put("a", 0, "", 5), put("a", -1, "", 5), put("a", 100001, "", 5), put("a", math.MinInt, "", 5), put("a", math.MaxInt, "", 5), del("a", 0), del("a", 100001), add("a", 0, 1), add("a", 100001, 1),
		// numbers
		put("a", 1, "", 1000001), put("a", 1, "", -1000001), put("a", 1, "", math.MinInt), put("a", 1, "", math.MaxInt), add("a", 1, 1000001), add("a", 1, -1000001), add("a", 1, math.MinInt), add("a", 1, math.MaxInt),
		// texts
		put("a", 1, t60+"t", 5), put("a", 1, strings.Repeat("\u00e9", 31), 5), put("a", 1, strings.Repeat("t", 1<<20), 5),
		// what stands beside a Kind that has it not
		ofKind("a", 1, impl.EntAdd, "t", 5), ofKind("a", 1, impl.EntAdd, "\x00", 5), ofKind("a", 1, impl.EntAdd, "t", 0), ofKind("a", 1, impl.EntDel, "t", 0), ofKind("a", 1, impl.EntDel, "\xff", 0),
		ofKind("a", 1, impl.EntDel, "", 1), ofKind("a", 1, impl.EntDel, "", -1), ofKind("a", 1, impl.EntDel, "", 1000000), ofKind("a", 1, impl.EntDel, "t", 1),
	}
	for _, kind := range noKinds {
		wrong = append(wrong, ofKind("a", 1, kind, "", 0), ofKind("a", 1, kind, "t", 5))
	}
	for _, e := range wrong {
		if impl.EntryOk(e) {
			t.Errorf("%.200v is not ok", e)
		}
	}
}

func TestEntryLess(t *testing.T) {
	// each stands ahead of all behind it; those of one line stand with each other
	lines := [][]impl.Entry{
		{del("", math.MaxInt), put("", math.MaxInt, "t", 5)},
		{del("", 3)},
		{del("", math.MinInt)},
		{add("/", 5, 1)},
		{add("0", 5, 1)},
		{put("a", 100000, "t", 5)},
		{del("a", 7), put("a", 7, "t", 5), put("a", 7, "", 0), add("a", 7, 9), {Key: "a", Seq: 7, Kind: 99}},
		{put("a", 6, "t", 5)},
		{put("a", 0, "t", 5)},
		{put("a", -6, "t", 5)},
		{put("a", math.MinInt, "t", 5)},
		{put("a\x00", 9, "t", 5)},
		{put("a/1", 9, "t", 5)},
		{put("aa", 1, "t", 5)},
		{put("ab", 9, "t", 5), del("ab", 9)},
		{put("b", 8, "", 0)},
		{put("z", 8, "", 0)},
		{put("\u00e9", 8, "", 0)},
		{put("\xff", 8, "", 0)},
		{put("\xff", 7, "", 0)},
	}
	for i, as := range lines {
		for j, bs := range lines {
			for _, a := range as {
				for _, b := range bs {
					if impl.EntryLess(a, b) != (i < j) {
						t.Errorf("%v and %v: %v", a, b, i >= j)
					}
				}
			}
		}
	}
}

func TestCellDo(t *testing.T) {
	cells := []impl.Cell{{}, has("", 0), has("", 5), has("t", 0), has("t", -7), has("\xff", 1000000), {Text: "t"}, {N: 5}, {Text: "t", N: 5}}
	for _, c := range cells {
		for _, n := range []int{0, 1, -1, 3, 1000000, -1000000, 5000000} {
			for _, text := range []string{"", "u", "\x00\xff", strings.Repeat("u", 100)} {
				for _, e := range []impl.Entry{{Key: "a", Seq: 1}, {}, {Key: "A", Seq: -5}} {
					e.Text, e.N = text, n
					doOf := func(kind int) impl.Cell {
						e.Kind = kind
						return impl.CellDo(c, e)
					}
					if got := doOf(impl.EntPut); got != has(text, n) {
						t.Errorf("%v with %v: %v", c, e, got)
					}
					if got := doOf(impl.EntDel); got != (impl.Cell{}) {
						t.Errorf("%v with %v: %v", c, e, got)
					}
					if got := doOf(impl.EntAdd); got != has(c.Text, c.N+n) {
						t.Errorf("%v with %v: %v", c, e, got)
					}
					for _, kind := range noKinds {
						if got := doOf(kind); got != c {
							t.Errorf("%v with %v: %v", c, e, got)
						}
					}
				}
			}
		}
	}
	for _, c := range []struct {
		a, b int
	}{{math.MaxInt, 1}, {math.MinInt, -1}, {math.MaxInt, math.MaxInt}, {math.MinInt, math.MinInt}} {
		if got := impl.CellDo(has("t", c.a), add("a", 1, c.b)); got != has("t", c.a+c.b) {
			t.Errorf("%v", got)
		}
	}
}

func TestCellsEntryByEntry(t *testing.T) {
	c := impl.Cell{}
	for _, step := range []struct {
		e    impl.Entry
		want impl.Cell
	}{
		{add("a", 1, 5), has("", 5)}, // added where nothing is
		{add("a", 2, -5), has("", 0)},
		{put("a", 3, "t", 7), has("t", 7)},
		{add("a", 4, 3), has("t", 10)},
		{add("a", 5, -30), has("t", -20)},
		{put("a", 6, "", 0), has("", 0)},
		{put("a", 7, "u", 1), has("u", 1)},
		{del("a", 8), impl.Cell{}},
		{del("a", 9), impl.Cell{}},
		{add("a", 10, 4), has("", 4)}, // added behind what was taken away
		{ofKind("a", 11, 9, "w", 8), has("", 4)},
		{del("a", 12), impl.Cell{}},
		{ofKind("a", 13, 0, "w", 8), impl.Cell{}},
		{add("a", 14, 0), has("", 0)},
	} {
		c = impl.CellDo(c, step.e)
		if c != step.want {
			t.Fatalf("behind %v: %v, not %v", step.e, c, step.want)
		}
	}
}

// cellsAt holds what a key has at each of these times against what is told.
func cellsAt(t *testing.T, list []impl.Entry, key string, want map[int]impl.Cell) {
	t.Helper()
	for seq, c := range want {
		if got := impl.CellAll(list, key, seq); got != c {
			t.Errorf("%v: %q has %v at %d, not %v", list, key, got, seq, c)
		}
	}
}

func TestCellAllAtEachTime(t *testing.T) {
	// not in the order of their Seq
	list := []impl.Entry{add("a", 40, 5), put("b", 25, "no", 99), put("a", 10, "t", 2), del("a", 50), add("a", 30, -1), add("ab", 5, 77), add("a", 60, 8), del("", 35)}
	cellsAt(t, list, "a", map[int]impl.Cell{
		math.MinInt: {}, -1: {}, 0: {}, 9: {}, // below all entries
		10: has("t", 2), 11: has("t", 2), 29: has("t", 2), // between two
		30: has("t", 1), 39: has("t", 1), 40: has("t", 6), 49: has("t", 6), 50: {}, 59: {}, 60: has("", 8), 61: has("", 8), 100001: has("", 8), math.MaxInt: has("", 8),
	})
	cellsAt(t, list, "b", map[int]impl.Cell{24: {}, 25: has("no", 99), 100: has("no", 99)})
	cellsAt(t, list, "ab", map[int]impl.Cell{4: {}, 5: has("", 77), 100: has("", 77)})
	for _, key := range []string{"", "c", "aa", "A", "a ", "\xff", "abcdefghi"} {
		cellsAt(t, list, key, map[int]impl.Cell{0: {}, 35: {}, math.MaxInt: {}})
	}
}

func TestCellAllOfTwoEntriesOfOneTime(t *testing.T) {
	cellsAt(t, []impl.Entry{put("a", 5, "t", 1), add("a", 5, 2)}, "a", map[int]impl.Cell{4: {}, 5: has("t", 3)})
	cellsAt(t, []impl.Entry{add("a", 5, 2), put("a", 5, "t", 1)}, "a", map[int]impl.Cell{4: {}, 5: has("t", 1)})
	cellsAt(t, []impl.Entry{del("a", 5), put("a", 5, "t", 1)}, "a", map[int]impl.Cell{5: has("t", 1)})
	cellsAt(t, []impl.Entry{put("a", 5, "t", 1), del("a", 5)}, "a", map[int]impl.Cell{5: {}})
	// with others between them, and around them
	cellsAt(t, []impl.Entry{put("a", 5, "t", 1), add("a", 9, 100), put("b", 5, "b", 1), put("a", 5, "u", 2), put("a", 1, "v", 3), put("a", 5, "w", 4)}, "a", map[int]impl.Cell{4: has("v", 3), 5: has("w", 4), 9: has("w", 104)})
	// so many that a sort which is not stable would be seen
	var list []impl.Entry
	for i := range 300 {
		list = append(list, put("a", 3-i%3, "t", i), del("b", i))
	}
	cellsAt(t, list, "a", map[int]impl.Cell{0: {}, 1: has("t", 299), 2: has("t", 298), 3: has("t", 297)})
}

func TestCellAllOfAnyEntries(t *testing.T) {
	one := []impl.Entry{add("a", 1, 1)}
	for _, list := range [][]impl.Entry{nil, {}, one[:0]} {
		for _, key := range []string{"a", "", "\xff", "abcdefghi"} {
			cellsAt(t, list, key, map[int]impl.Cell{math.MinInt: {}, 0: {}, 7: {}, math.MaxInt: {}})
		}
	}
	long := strings.Repeat("t", 1000)
	list := []impl.Entry{
		put("", -3, "none", 1), add("", 0, 5), put("A:\xff", 200000, long, math.MaxInt), add("A:\xff", 200001, 1),
		ofKind("k", 1, 7, "x", 9), add("k", 2, 4), ofKind("k", 3, 0, "x", 9), ofKind("k", 4, impl.EntAdd, "x", 1), ofKind("k", 6, -1, "y", 1), ofKind("k", 5, impl.EntDel, "x", 9),
	}
	cellsAt(t, list, "", map[int]impl.Cell{math.MinInt: {}, -4: {}, -3: has("none", 1), -1: has("none", 1), 0: has("none", 6), 9: has("none", 6)})
	cellsAt(t, list, "A:\xff", map[int]impl.Cell{199999: {}, 200000: has(long, math.MaxInt), 200001: has(long, math.MinInt)})
	cellsAt(t, list, "k", map[int]impl.Cell{0: {}, 1: {}, 2: has("", 4), 3: has("", 4), 4: has("", 5), 5: {}, 6: {}})
	cellsAt(t, []impl.Entry{put("a", math.MaxInt, "t", 1), put("a", math.MinInt, "u", 2)}, "a", map[int]impl.Cell{math.MinInt: has("u", 2), 0: has("u", 2), math.MaxInt: has("t", 1)})
}

// handCell is what a key has, looked for in another way: each time the oldest entry that was not done yet.
func handCell(list []impl.Entry, key string, seq int) impl.Cell {
	c := impl.Cell{}
	done := make([]bool, len(list))
	for {
		next := -1
		for i, e := range list {
			if !done[i] && e.Key == key && e.Seq <= seq && (next < 0 || e.Seq < list[next].Seq) {
				next = i
			}
		}
		if next < 0 {
			return c
		}
		done[next] = true
		switch e := list[next]; e.Kind {
		case 1:
			c = impl.Cell{Has: true, Text: e.Text, N: e.N}
		case 2:
			c = impl.Cell{}
		case 3:
			c = impl.Cell{Has: true, Text: c.Text, N: c.N + e.N}
		}
	}
}

// nextEntry is an entry that hangs on a number; some are not ok, and many are of one key and one time.
func nextEntry(x *uint32) impl.Entry {
	next := func(n int) int {
		*x = *x*1664525 + 1013904223
		return int(*x>>8) % n
	}
	keys := []string{"a", "b", "ab", "b/a/1", ""}
	words := []string{"", "t", "text", "\xff"}
	return ofKind(keys[next(5)], next(9), []int{1, 2, 3, 3, 1, 0, 4}[next(7)], words[next(4)], next(41)-20)
}

// Promise 4, of many lists, at each time.
func TestWhatAKeyHasIsToldByItsEntriesUpToThatTime(t *testing.T) {
	for seed := range uint32(400) {
		x := seed
		var list []impl.Entry
		for range 1 + seed%30 {
			list = append(list, nextEntry(&x))
		}
		for _, key := range []string{"a", "b", "ab", "b/a/1", "", "none"} {
			for seq := -1; seq <= 10; seq++ {
				c := impl.CellAll(list, key, seq)
				if want := handCell(list, key, seq); c != want {
					t.Fatalf("%v: %q has %v at %d, not %v", list, key, c, seq, want)
				}
				var own []impl.Entry
				for _, e := range list {
					if e.Key == key && e.Seq <= seq {
						own = append(own, e)
					}
				}
				if got := impl.CellAll(own, key, seq); got != c {
					t.Fatalf("%v: %q has %v at %d, but %v by its own alone", list, key, c, seq, got)
				}
				slices.SortStableFunc(own, func(a, b impl.Entry) int { return a.Seq - b.Seq })
				one := impl.Cell{}
				for _, e := range own {
					one = impl.CellDo(one, e)
				}
				if one != c {
					t.Fatalf("%v: %q has %v at %d, but %v entry by entry", list, key, c, seq, one)
				}
			}
		}
	}
}

// Where no two are of one time, it does not matter how the entries stand.
func TestWhatAKeyHasDoesNotHangOnHowItsEntriesStand(t *testing.T) {
	list := []impl.Entry{put("a", 1, "t", 2), add("a", 2, 3), del("a", 3), add("a", 4, 5), add("b", 5, 9), add("a", 6, -7)}
	var want []impl.Cell
	for seq := range 8 {
		want = append(want, handCell(list, "a", seq))
	}
	var each func(k int)
	each = func(k int) {
		if k == len(list) {
			for seq, c := range want {
				if got := impl.CellAll(list, "a", seq); got != c {
					t.Fatalf("%v at %d: %v, not %v", list, seq, got, c)
				}
			}
			return
		}
		for i := k; i < len(list); i++ {
			list[k], list[i] = list[i], list[k]
			each(k + 1)
			list[k], list[i] = list[i], list[k]
		}
	}
	each(0)
}

func TestCellAllWritesNothingIntoItsList(t *testing.T) {
	room := []impl.Entry{add("a", 9, 5), put("b", 2, "t", 2), put("a", 3, "u", 1), del("a", 1), add("a", 3, 4), put("spare", 1, "s", 1), put("a", 2, "s", 1), add("a", 0, 1)}
	was := slices.Clone(room)
	for _, key := range []string{"a", "b", "spare", ""} {
		for seq := range 12 {
			impl.CellAll(room[:5], key, seq)
		}
	}
	if !slices.Equal(room, was) {
		t.Errorf("%v", room)
	}
}

func TestCellsAreNewMemory(t *testing.T) {
	text := strings.Repeat("t", 20)
	e := put("a", 1, text, 5)
	for i, c := range []impl.Cell{
		impl.CellDo(impl.Cell{}, e),
		impl.CellDo(has(text, 1), add("a", 2, 1)),
		impl.CellDo(has(text, 1), ofKind("a", 2, 9, "", 0)),
		impl.CellAll([]impl.Entry{e}, "a", 1),
		impl.CellAll([]impl.Entry{add("a", 2, 1), e}, "a", 2),
	} {
		if c.Text != text || unsafe.StringData(c.Text) == unsafe.StringData(text) {
			t.Errorf("the text of cell %d is in the memory of an argument", i)
		}
	}
	acct := strings.Clone("cash")
	if key := impl.KeyBal(acct, 1); unsafe.StringData(key) == unsafe.StringData(acct) {
		t.Error("a key is in the memory of an argument")
	}
}
