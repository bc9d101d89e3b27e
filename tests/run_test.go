package tests

import (
	"fmt"
	"math"
	"math/big"
	"slices"
	"strings"
	"testing"
	"unsafe"

	"loop.example/comptoir/impl"
)

// wildSeqs is times that no entry which is ok may have, and the ends of those that it may have.
var wildSeqs = []int{math.MinInt, -100000, -1, 0, 1, 100000, 100001, math.MaxInt}

// mustRun is the run of entries that make one.
func mustRun(t *testing.T, list ...impl.Entry) impl.Run {
	t.Helper()
	r, ok := impl.RunOf(list)
	if !ok {
		t.Fatalf("%v make a run", list)
	}
	return r
}

// notInto holds a list, with what is behind its end, against what it was.
func notInto(t *testing.T, what string, room []impl.Entry, was []impl.Entry) {
	t.Helper()
	if !slices.Equal(room, was) {
		t.Errorf("%s wrote into its list: %v, not %v", what, room, was)
	}
}

// wrongEntries is entries that are not ok, all of the key b and the time 5 where they may be.
func wrongEntries() []impl.Entry {
	return []impl.Entry{
		{}, put("", 5, "t", 1), put("B", 5, "t", 1), put("b:b", 5, "t", 1), put("bbbbbbbbb", 5, "t", 1), put("b\xff", 5, "t", 1),
		put("b", 0, "t", 1), put("b", -5, "t", 1), put("b", 100001, "t", 1), put("b", math.MinInt, "t", 1), put("b", math.MaxInt, "t", 1),
		put("b", 5, "t", 1000001), put("b", 5, "t", -1000001), add("b", 5, 1000001), add("b", 5, math.MinInt), put("b", 5, strings.Repeat("t", 61), 1),
		ofKind("b", 5, impl.EntAdd, "t", 1), ofKind("b", 5, impl.EntDel, "t", 0), ofKind("b", 5, impl.EntDel, "", 1), ofKind("b", 5, 0, "", 0), ofKind("b", 5, 4, "", 0), ofKind("b", 5, -1, "", 0),
	}
}

// handMask is the marks of a key, worked out as one great number of all its bytes.
func handMask(key string) int {
	h := big.NewInt(7)
	for i := range len(key) {
		h.Mul(h, big.NewInt(31))
		h.Add(h, big.NewInt(int64(key[i])))
	}
	left := int(h.Mod(h, big.NewInt(65521)).Int64())
	mask := 0
	for bit := range 16 {
		if left%16 == bit || left%256/16 == bit {
			mask += 1 << bit
		}
	}
	return mask
}

func TestKeyMask(t *testing.T) {
	for _, c := range []struct {
		key  string
		want int
	}{
		{"", 1<<7 | 1<<0},
		{"a", 1<<10 | 1<<3}, // 314
		{"b", 1<<11 | 1<<3},
		{"n", 1<<7 | 1<<4},     // 327
		{"8", 1 << 1},          // 273: one bit
		{"k", 1 << 4},          // 324: one bit
		{"aa", 1<<7 | 1<<6},    // 9831
		{"\x00", 1<<9 | 1<<13}, // 217
		{"\xff", 1<<8 | 1<<13}, // 472
	} {
		if got := impl.KeyMask(c.key); got != c.want {
			t.Errorf("%q: %b, not %b", c.key, got, c.want)
		}
	}
	keys := []string{"b/cash/1", "i/07", "j/39", "zzzzzzzz", "////////", "abcdefghi", "A:b", "\u00e9", "\xff\xfe\x00", strings.Repeat("z", 500), strings.Repeat("\xff", 500)}
	for b := range 256 {
		keys = append(keys, string([]byte{byte(b)}), "a"+string([]byte{byte(b)}), string([]byte{byte(b), 'q', '/', byte(255 - b)}))
	}
	keys = append(keys, someAccts()...)
	for _, key := range keys {
		if got, want := impl.KeyMask(key), handMask(key); got != want {
			t.Errorf("%.40q: %b, not %b", key, got, want)
		}
	}
}

func TestRunOf(t *testing.T) {
	r := mustRun(t, add("b", 2, 1), put("a", 1, "t", 5), del("ab", 9), add("a", 3, 2), put("8", 7, "", 0), del("a", 2))
	want := []impl.Entry{put("8", 7, "", 0), add("a", 3, 2), del("a", 2), put("a", 1, "t", 5), del("ab", 9), add("b", 2, 1)}
	if !slices.Equal(r.Ents, want) {
		t.Errorf("%v", r.Ents)
	}
	if mask := handMask("8") | handMask("a") | handMask("ab") | handMask("b"); r.Mask != mask {
		t.Errorf("%b, not %b", r.Mask, mask)
	}
	if one := mustRun(t, put("k", 100000, strings.Repeat("t", 60), -1000000)); one.Mask != 1<<4 || len(one.Ents) != 1 {
		t.Errorf("%v", one)
	}
}

// Promise 5: in whatever order they come, they stand in one.
func TestARunHasWhatWasPutInInOrder(t *testing.T) {
	list := []impl.Entry{add("a", 9, 1), del("a", 5), put("a", 1, "t", 3), put("a/", 5, "u", 3), del("b", 7), add("b", 6, -4)}
	want := slices.Clone(list)
	mask := handMask("a") | handMask("a/") | handMask("b")
	var each func(k int)
	each = func(k int) {
		if k == len(list) {
			r, ok := impl.RunOf(list)
			if !ok || !slices.Equal(r.Ents, want) || r.Mask != mask || !impl.RunOk(r) {
				t.Fatalf("%v: %v", list, r)
			}
			return
		}
		for i := k; i < len(list); i++ {
			list[k], list[i] = list[i], list[k]
			each(k + 1)
			list[k], list[i] = list[i], list[k]
		}
	}
	each(0)
}

// many is n entries that make a run, not in order.
func many(n int) []impl.Entry {
	var list []impl.Entry
	for i := range n {
		list = append(list, put(fmt.Sprintf("k%02d", i*7%50), 1+i*37%1000, "t", i))
	}
	return list
}

func TestRunOfManyEntries(t *testing.T) {
	for _, n := range []int{1, 2, 149, 150} {
		list := many(n)
		r, ok := impl.RunOf(list)
		if !ok || len(r.Ents) != n || !impl.RunOk(r) {
			t.Fatalf("%d entries: %v, %d", n, ok, len(r.Ents))
		}
		for _, e := range list {
			if !slices.Contains(r.Ents, e) {
				t.Errorf("%v is not in the run of %d", e, n)
			}
		}
	}
	for _, n := range []int{151, 152, 300, 1000} {
		if r, ok := impl.RunOf(many(n)); ok || r.Ents != nil || r.Mask != 0 {
			t.Errorf("%d entries: %v", n, ok)
		}
	}
	all := many(151)
	slices.SortFunc(all, func(a, b impl.Entry) int {
		if impl.EntryLess(a, b) {
			return -1
		}
		return 1
	})
	for _, n := range []int{150, 151} {
		mask := 0
		for _, e := range all[:n] {
			mask |= handMask(e.Key)
		}
		if impl.RunOk(impl.Run{Ents: all[:n], Mask: mask}) != (n == 150) {
			t.Errorf("a run of %d", n)
		}
	}
}

func TestRunOfWhatMakesNone(t *testing.T) {
	none := func(list ...impl.Entry) {
		t.Helper()
		if r, ok := impl.RunOf(list); ok || len(r.Ents) != 0 || r.Mask != 0 {
			t.Errorf("%.300v: %v, %v", list, r, ok)
		}
	}
	none()
	none([]impl.Entry{}...)
	none(many(5)[:0]...)
	// two of one key and one Seq
	none(put("a", 1, "t", 1), put("a", 1, "t", 1))
	none(put("a", 1, "t", 1), add("a", 1, 1))
	none(del("a", 3), put("b", 3, "", 1), add("a", 4, 1), put("b", 7, "", 1), add("a", 3, 1))
	// one is not ok, wherever it stands
	for _, e := range wrongEntries() {
		none(e)
		none(e, put("a", 1, "t", 1), put("c", 2, "t", 1))
		none(put("a", 1, "t", 1), e, put("c", 2, "t", 1))
		none(put("a", 1, "t", 1), put("c", 2, "t", 1), e)
	}
	// the same Seq of two keys, and one key at two times, make a run
	mustRun(t, put("a", 1, "t", 1), put("b", 1, "t", 1), put("a", 2, "t", 1))
}

func TestRunOk(t *testing.T) {
	r := mustRun(t, add("b", 2, 1), put("a", 1, "t", 5), del("ab", 9), add("a", 3, 2))
	if !impl.RunOk(r) {
		t.Fatalf("%v", r)
	}
	for bit := range 64 {
		other := r
		other.Mask ^= 1 << bit // one bit more, or less
		if impl.RunOk(other) {
			t.Errorf("with the bit %d turned", bit)
		}
	}
	for _, mask := range []int{0, -1, 1<<16 - 1, math.MinInt, math.MaxInt, -r.Mask} {
		if impl.RunOk(impl.Run{Ents: r.Ents, Mask: mask}) || impl.RunOk(impl.Run{Mask: mask}) || impl.RunOk(impl.Run{Ents: []impl.Entry{}, Mask: mask}) {
			t.Errorf("with the marks %b", mask)
		}
	}
	for i := 1; i < len(r.Ents); i++ { // not in order
		other := impl.Run{Ents: slices.Clone(r.Ents), Mask: r.Mask}
		other.Ents[i-1], other.Ents[i] = other.Ents[i], other.Ents[i-1]
		if impl.RunOk(other) {
			t.Errorf("%v", other)
		}
	}
	for i, e := range r.Ents { // one twice
		if other := (impl.Run{Ents: slices.Insert(slices.Clone(r.Ents), i, e), Mask: r.Mask}); impl.RunOk(other) {
			t.Errorf("%v", other)
		}
	}
	for _, e := range wrongEntries() {
		if impl.RunOk(impl.Run{Ents: []impl.Entry{e}, Mask: handMask(e.Key)}) || impl.RunOk(impl.Run{Ents: []impl.Entry{put("a", 9, "", 1), e, put("c", 2, "", 1)}, Mask: handMask("a") | handMask(e.Key) | handMask("c")}) {
			t.Errorf("%.200v", e)
		}
	}
	// what is put in wrongly ordered makes a run, but is none as it stands
	if list := []impl.Entry{put("a", 1, "", 1), put("a", 2, "", 1)}; impl.RunOk(impl.Run{Ents: list, Mask: handMask("a")}) || !impl.RunOk(mustRun(t, list...)) {
		t.Error("older ahead of newer")
	}
}

func TestRunMay(t *testing.T) {
	r := mustRun(t, put("b", 1, "", 1), add("k", 3, 1), del("b", 2), add("m/1", 3, 1), put("w", 1, "", 1))
	keys := append(someAccts(), "", "/", "0", "a", "b", "b/", "8", "k", "w", "w/", "x", "a\xff", "b\x00", "\xff", "M", "m/1", "m/10", strings.Repeat("m", 300))
	for a := range 128 {
		keys = append(keys, string([]byte{byte(a)}))
		for b := range 256 {
			keys = append(keys, string([]byte{byte(a), byte(b)}))
		}
	}
	may, mayNot := 0, 0
	for _, key := range keys {
		marks := handMask(key)
		want := key >= "b" && key <= "w" && marks&r.Mask == marks
		if impl.RunMay(r, key) != want {
			t.Errorf("%.40q: %v", key, !want)
		}
		if want {
			may++
		} else if key >= "b" && key <= "w" {
			mayNot++
		}
	}
	if may < 10 || mayNot < 10 {
		t.Errorf("%d that it may have, %d that it may not", may, mayNot)
	}
	// ahead of the first one's, or behind the last one's, with marks that it has
	ends := mustRun(t, put("k", 1, "", 1))
	if !impl.RunMay(ends, "k") {
		t.Error("it has k")
	}
	for a := range 256 {
		for b := range 256 {
			if key := string([]byte{byte(a), byte(b)}); impl.RunMay(ends, key) {
				t.Errorf("%q is not in the range", key)
			}
		}
	}
}

// notRuns is runs that are not ok, all with an entry of the key b.
func notRuns() []impl.Run {
	b := put("b", 5, "t", 1)
	mask := handMask("a") | handMask("b") | handMask("c")
	return []impl.Run{
		{}, {Mask: mask}, {Ents: []impl.Entry{}, Mask: mask}, {Ents: []impl.Entry{b}}, {Ents: []impl.Entry{b}, Mask: -1}, {Ents: []impl.Entry{b}, Mask: mask}, {Ents: []impl.Entry{b}, Mask: 1<<16 - 1},
		{Ents: []impl.Entry{del("c", 1), b, del("a", 1)}, Mask: mask}, {Ents: []impl.Entry{del("a", 1), b, b, del("c", 1)}, Mask: mask}, {Ents: []impl.Entry{del("a", 1), b, del("b", 6), del("c", 1)}, Mask: mask},
		{Ents: []impl.Entry{ofKind("a", 1, 9, "", 0), b, del("c", 1)}, Mask: mask}, {Ents: []impl.Entry{del("a", 1), b, ofKind("c", 0, impl.EntPut, "", 1)}, Mask: mask},
	}
}

func TestWhatIsNoRunTellsNothing(t *testing.T) {
	for _, r := range notRuns() {
		for _, key := range []string{"", "a", "b", "c", "\xff"} {
			if impl.RunMay(r, key) {
				t.Errorf("%v: %q", r, key)
			}
			for _, seq := range append(wildSeqs, 5, 6) {
				if got := impl.RunFind(r, key, seq); len(got) != 0 {
					t.Errorf("%v: %q up to %d: %v", r, key, seq, got)
				}
			}
		}
	}
}

func TestRunFind(t *testing.T) {
	r := mustRun(t, put("b", 10, "t", 1), add("b", 20, 2), del("b", 30), put("a", 15, "u", 5), add("ba", 25, 7), del("c", 1), add("c", 100000, 4))
	for _, c := range []struct {
		key  string
		seq  int
		want []impl.Entry
	}{
		{"b", 9, nil}, // below all
		{"b", 0, nil}, {"b", -1, nil}, {"b", math.MinInt, nil},
		{"b", 10, []impl.Entry{put("b", 10, "t", 1)}}, {"b", 11, []impl.Entry{put("b", 10, "t", 1)}}, {"b", 19, []impl.Entry{put("b", 10, "t", 1)}}, // between two
		{"b", 20, []impl.Entry{add("b", 20, 2), put("b", 10, "t", 1)}}, {"b", 29, []impl.Entry{add("b", 20, 2), put("b", 10, "t", 1)}},
		{"b", 30, []impl.Entry{del("b", 30), add("b", 20, 2), put("b", 10, "t", 1)}}, {"b", 31, []impl.Entry{del("b", 30), add("b", 20, 2), put("b", 10, "t", 1)}}, {"b", math.MaxInt, []impl.Entry{del("b", 30), add("b", 20, 2), put("b", 10, "t", 1)}},
		{"a", 14, nil}, {"a", 15, []impl.Entry{put("a", 15, "u", 5)}}, {"a", 100, []impl.Entry{put("a", 15, "u", 5)}},
		{"ba", 24, nil}, {"ba", 25, []impl.Entry{add("ba", 25, 7)}},
		{"c", 0, nil}, {"c", 1, []impl.Entry{del("c", 1)}}, {"c", 99999, []impl.Entry{del("c", 1)}}, {"c", 100000, []impl.Entry{add("c", 100000, 4), del("c", 1)}},
		{"", 50, nil}, {"0", 50, nil}, {"aa", 50, nil}, {"b0", 50, nil}, {"bb", 50, nil}, {"d", 50, nil}, {"zzzzzzzz", math.MaxInt, nil}, {"\xff", 50, nil}, {"b\x00", 50, nil}, {"B", 50, nil},
	} {
		if got := impl.RunFind(r, c.key, c.seq); !slices.Equal(got, c.want) {
			t.Errorf("%q up to %d: %v, not %v", c.key, c.seq, got, c.want)
		}
	}
}

// okEntries is up to n entries, no two of one key and one Seq, that hang on a number.
func okEntries(x *uint32, n int) []impl.Entry {
	var list []impl.Entry
	for range n {
		e := nextEntry(x)
		if e.Seq++; e.Kind != impl.EntPut {
			e.Text = ""
		}
		if e.Kind == impl.EntDel {
			e.N = 0
		}
		same := func(o impl.Entry) bool { return o.Key == e.Key && o.Seq == e.Seq }
		if impl.EntryOk(e) && !slices.ContainsFunc(list, same) {
			list = append(list, e)
		}
	}
	return list
}

// Promise 5, of many runs.
func TestARunNeverSaysThatItHasNotAKeyThatItHas(t *testing.T) {
	for seed := range uint32(300) {
		x := seed
		list := okEntries(&x, 1+int(seed%60))
		if len(list) == 0 {
			continue
		}
		r := mustRun(t, list...)
		if len(r.Ents) != len(list) || !impl.RunOk(r) {
			t.Fatalf("%v: %v", list, r)
		}
		for _, e := range list {
			if !slices.Contains(r.Ents, e) || !impl.RunMay(r, e.Key) || !slices.Contains(impl.RunFind(r, e.Key, e.Seq), e) || slices.Contains(impl.RunFind(r, e.Key, e.Seq-1), e) {
				t.Fatalf("%v has %v", r, e)
			}
		}
		for _, key := range []string{"", "a", "aa", "ab", "b", "b/a/1", "c"} {
			for seq := -1; seq <= 11; seq++ {
				var want []impl.Entry
				for _, e := range r.Ents {
					if e.Key == key && e.Seq <= seq {
						want = append(want, e)
					}
				}
				if got := impl.RunFind(r, key, seq); !slices.Equal(got, want) {
					t.Fatalf("%v: %q up to %d: %v", r, key, seq, got)
				}
				if len(want) > 0 && !impl.RunMay(r, key) {
					t.Fatalf("%v has %q", r, key)
				}
				if impl.CellAll(impl.RunFind(r, key, seq), key, seq) != impl.CellAll(list, key, seq) {
					t.Fatalf("%v: %q at %d", r, key, seq)
				}
			}
		}
	}
}

func TestRunSame(t *testing.T) {
	r := mustRun(t, put("a", 2, "t", 1), add("b", 1, 1))
	if !impl.RunSame(r, mustRun(t, add("b", 1, 1), put("a", 2, "t", 1))) || !impl.RunSame(impl.Run{}, impl.Run{Ents: []impl.Entry{}}) || !impl.RunSame(impl.Run{Ents: r.Ents[:0], Mask: 5}, impl.Run{Mask: 5}) {
		t.Error("they are the same")
	}
	turn := func(how func(e *impl.Entry)) impl.Run {
		other := impl.Run{Ents: slices.Clone(r.Ents), Mask: r.Mask}
		how(&other.Ents[1])
		return other
	}
	for i, other := range []impl.Run{
		{}, {Ents: r.Ents}, {Mask: r.Mask}, {Ents: r.Ents, Mask: r.Mask + 1}, {Ents: r.Ents, Mask: -r.Mask}, {Ents: r.Ents[:1], Mask: r.Mask}, {Ents: r.Ents[1:], Mask: r.Mask},
		{Ents: []impl.Entry{r.Ents[1], r.Ents[0]}, Mask: r.Mask}, {Ents: append(slices.Clone(r.Ents), del("c", 1)), Mask: r.Mask}, {Ents: append(slices.Clone(r.Ents), impl.Entry{}), Mask: r.Mask},
		turn(func(e *impl.Entry) { e.Key = "bb" }), turn(func(e *impl.Entry) { e.Seq = 2 }), turn(func(e *impl.Entry) { e.Kind = impl.EntPut }), turn(func(e *impl.Entry) { e.Text = "t" }), turn(func(e *impl.Entry) { e.N = -1 }),
	} {
		if impl.RunSame(r, other) || impl.RunSame(other, r) || !impl.RunSame(other, other) {
			t.Errorf("%d: %v", i, other)
		}
	}
	for _, a := range notRuns() { // of any two, whether they are ok or not
		if !impl.RunSame(a, impl.Run{Ents: slices.Clone(a.Ents), Mask: a.Mask}) {
			t.Errorf("%v", a)
		}
	}
}

// handMerge is entries of several lists in order: each time the first of which none stands ahead.
func handMerge(lists [][]impl.Entry) []impl.Entry {
	left := slices.Concat(lists...)
	var all []impl.Entry
	for len(left) > 0 {
		first := 0
		for i, e := range left {
			if o := left[first]; e.Key < o.Key || e.Key == o.Key && e.Seq > o.Seq {
				first = i
			}
		}
		all = append(all, left[first])
		left = slices.Delete(left, first, first+1)
	}
	return all
}

func TestMergeAll(t *testing.T) {
	merged := func(want []impl.Entry, lists ...[]impl.Entry) {
		t.Helper()
		if got := impl.MergeAll(lists); !slices.Equal(got, want) {
			t.Errorf("%v: %v, not %v", lists, got, want)
		}
	}
	a3, a1, b5, b2, c7 := add("a", 3, 1), put("a", 1, "t", 2), del("b", 5), add("b", 2, 3), put("c", 7, "", 0)
	all := []impl.Entry{a3, a1, b5, b2, c7}
	merged(all, []impl.Entry{a3, b2}, []impl.Entry{a1, c7}, []impl.Entry{b5})
	merged(all, []impl.Entry{b5}, nil, []impl.Entry{a1, c7}, []impl.Entry{}, []impl.Entry{a3, b2})
	merged(all, all)
	merged(all, nil, all, nil)
	merged(all, []impl.Entry{c7, b2, b5, a1, a3})
	merged(all, []impl.Entry{c7, a1}, []impl.Entry{b2, b5, a3})
	merged(nil)
	merged(nil, nil)
	merged(nil, nil, []impl.Entry{}, all[:0])
	if len(impl.MergeAll(nil)) != 0 || len(impl.MergeAll([][]impl.Entry{})) != 0 {
		t.Error("of no lists")
	}
}

// Those of which neither stands ahead of the other stay in the order of the lists, and of their places in them.
func TestMergeAllOfEntriesThatStandWithEachOther(t *testing.T) {
	var lists [][]impl.Entry
	var want []impl.Entry
	for i := range 12 {
		var list []impl.Entry
		for k := range 9 {
			e := ofKind("m", 5, 1+(i+k)%3, "t", 100*i+k)
			list = append(list, e)
			want = append(want, e)
		}
		lists = append(lists, list)
	}
	if got := impl.MergeAll(lists); !slices.Equal(got, want) {
		t.Errorf("%v", got)
	}
	// with others around them, and in lists that are not in order
	for i := range lists {
		lists[i] = slices.Insert(lists[i], i%9, add("z", i, i), del("a", i), add("m", 5+(i%2), -i))
	}
	lists = append(lists, nil, []impl.Entry{put("m", 5, "last", -1), put("a", 99, "", 0)})
	if got := impl.MergeAll(lists); !slices.Equal(got, handMerge(lists)) {
		t.Errorf("%v", got)
	}
	one, two, three := put("a", 1, "1", 1), put("a", 1, "2", 2), put("a", 1, "3", 3)
	if got := impl.MergeAll([][]impl.Entry{{two, three}, {one}}); !slices.Equal(got, []impl.Entry{two, three, one}) {
		t.Errorf("%v", got)
	}
	if got := impl.MergeAll([][]impl.Entry{{one, del("b", 1), two, del("a", 2), three}}); !slices.Equal(got, []impl.Entry{del("a", 2), one, two, three, del("b", 1)}) {
		t.Errorf("%v", got)
	}
}

func TestMergeAllOfAnyLists(t *testing.T) {
	for seed := range uint32(400) {
		x := seed
		lists := make([][]impl.Entry, seed%8)
		for i := range lists {
			for range (seed + uint32(i)*7) % 20 {
				lists[i] = append(lists[i], nextEntry(&x))
			}
			if seed%3 == 0 { // in order
				lists[i] = handMerge(lists[i : i+1])
			}
		}
		if got, want := impl.MergeAll(lists), handMerge(lists); !slices.Equal(got, want) {
			t.Fatalf("%v: %v, not %v", lists, got, want)
		}
	}
	wild := [][]impl.Entry{wrongEntries(), {put("\xff", math.MinInt, "\xff", math.MaxInt), put("", math.MaxInt, "", math.MinInt)}, wrongEntries()}
	if got := impl.MergeAll(wild); !slices.Equal(got, handMerge(wild)) {
		t.Errorf("%v", got)
	}
	// a list of many that stands the other way round
	var back []impl.Entry
	for i := range 3000 {
		back = append(back, add("a", i, i))
	}
	got := impl.MergeAll([][]impl.Entry{back, back})
	for i, e := range got {
		if e.Seq != 2999-i/2 {
			t.Fatalf("%d: %v", i, e)
		}
	}
	if len(got) != 6000 {
		t.Error(len(got))
	}
}

// handClass tells the classes of a key from each other: how many of these times are below a Seq.
func handClass(e impl.Entry, snaps []int) int {
	n := 0
	for _, s := range snaps {
		if s < e.Seq {
			n++
		}
	}
	return n
}

// handSquashOne is the one entry of a class, worked out from its oldest on.
func handSquashOne(class []impl.Entry) impl.Entry {
	one := impl.Entry{Kind: impl.EntAdd}
	for _, e := range slices.Backward(class) {
		switch {
		case e.Kind == impl.EntPut, e.Kind == impl.EntDel:
			one = e
		case one.Kind == impl.EntDel:
			one.Kind, one.N = impl.EntPut, e.N
		default:
			one.N += e.N
		}
	}
	one.Key, one.Seq = class[0].Key, class[0].Seq
	return one
}

// handSquash is Squash of entries that are ok and in order, key by key, in another way.
func handSquash(list []impl.Entry, snaps []int, bottom bool) []impl.Entry {
	var all []impl.Entry
	for len(list) > 0 {
		n := 0
		classes := [][]impl.Entry{}
		for ; n < len(list) && list[n].Key == list[0].Key; n++ {
			if n == 0 || handClass(list[n], snaps) != handClass(list[n-1], snaps) {
				classes = append(classes, nil)
			}
			last := len(classes) - 1
			classes[last] = append(classes[last], list[n])
		}
		list = list[n:]
		var own []impl.Entry
		for _, class := range slices.Backward(classes) {
			one := handSquashOne(class)
			if one.N > 1000000 || one.N < -1000000 {
				own = slices.Concat(class, own)
				continue
			}
			if bottom && len(own) == 0 && one.Kind == impl.EntDel {
				continue
			}
			if bottom && len(own) == 0 && one.Kind == impl.EntAdd {
				one.Kind = impl.EntPut
			}
			own = slices.Concat([]impl.Entry{one}, own)
		}
		all = append(all, own...)
	}
	return all
}

type squashCase struct {
	snaps  []int
	bottom bool
	want   []impl.Entry
}

func squashes(t *testing.T, list []impl.Entry, cases []squashCase) {
	t.Helper()
	for i, c := range cases {
		if got := impl.Squash(list, c.snaps, c.bottom); !slices.Equal(got, c.want) {
			t.Errorf("%d: %v, not %v", i, got, c.want)
		}
		if hand := handSquash(list, c.snaps, c.bottom); !slices.Equal(hand, c.want) {
			t.Errorf("%d by hand: %v, not %v", i, hand, c.want)
		}
	}
}

func TestSquash(t *testing.T) {
	list := []impl.Entry{
		add("a", 9, 1), add("a", 7, 2), del("a", 5), put("a", 3, "t", 8), // added behind what was taken away
		add("b", 4, 6), add("b", 2, -4), // added to nothing
		del("c", 8), put("c", 6, "u", 3), // taken away above something older
		add("d", 6, 5), put("d", 5, "v", -7), del("d", 3), add("d", 1, 9), // added to what was put
	}
	squashes(t, list, []squashCase{
		{nil, false, []impl.Entry{put("a", 9, "", 3), add("b", 4, 2), del("c", 8), put("d", 6, "v", -2)}},
		{nil, true, []impl.Entry{put("a", 9, "", 3), put("b", 4, "", 2), put("d", 6, "v", -2)}},
		{[]int{5}, false, []impl.Entry{add("a", 9, 3), del("a", 5), add("b", 4, 2), del("c", 8), add("d", 6, 5), put("d", 5, "v", -7)}},
		{[]int{5}, true, []impl.Entry{put("a", 9, "", 3), put("b", 4, "", 2), add("d", 6, 5), put("d", 5, "v", -7)}},
		{[]int{3}, false, []impl.Entry{put("a", 9, "", 3), put("a", 3, "t", 8), add("b", 4, 6), add("b", 2, -4), del("c", 8), put("d", 6, "v", -2), del("d", 3)}},
		{[]int{3}, true, []impl.Entry{put("a", 9, "", 3), put("a", 3, "t", 8), add("b", 4, 6), put("b", 2, "", -4), put("d", 6, "v", -2)}},
		{[]int{6}, false, []impl.Entry{add("a", 9, 3), del("a", 5), add("b", 4, 2), del("c", 8), put("c", 6, "u", 3), put("d", 6, "v", -2)}},
		{[]int{6}, true, []impl.Entry{put("a", 9, "", 3), put("b", 4, "", 2), del("c", 8), put("c", 6, "u", 3), put("d", 6, "v", -2)}},
	})
}

func TestSquashOfOneEntry(t *testing.T) {
	for _, snaps := range [][]int{nil, {4}, {5}, {6}, {4, 5, 6}} {
		for _, e := range []impl.Entry{put("a", 5, "t", 7), put("a", 5, "", 0), put("a", 5, "", 1000000), put("a", 5, "t", -1000000)} {
			squashes(t, []impl.Entry{e}, []squashCase{{snaps, false, []impl.Entry{e}}, {snaps, true, []impl.Entry{e}}})
		}
		squashes(t, []impl.Entry{del("a", 5)}, []squashCase{{snaps, false, []impl.Entry{del("a", 5)}}, {snaps, true, nil}})
		for _, n := range []int{0, 7, -7, 1000000, -1000000} {
			squashes(t, []impl.Entry{add("a", 5, n)}, []squashCase{{snaps, false, []impl.Entry{add("a", 5, n)}}, {snaps, true, []impl.Entry{put("a", 5, "", n)}}})
		}
	}
}

func TestSquashOfNone(t *testing.T) {
	for _, list := range [][]impl.Entry{nil, {}, many(3)[:0]} {
		for _, snaps := range [][]int{nil, {}, {3}, wildSeqs} {
			squashes(t, list, []squashCase{{snaps, false, nil}, {snaps, true, nil}})
		}
	}
}

// A time that is kept tells an entry from the one ahead, if it is not below its Seq, but below that of the one ahead.
func TestSquashAtTimesThatAreKept(t *testing.T) {
	list := []impl.Entry{add("a", 40, 4), add("a", 30, 3), add("a", 20, 2), put("a", 10, "t", 1)}
	one := []impl.Entry{put("a", 40, "t", 10)}
	cut20 := []impl.Entry{add("a", 40, 7), put("a", 20, "t", 3)}
	each := list
	cases := []squashCase{}
	for _, c := range []struct {
		snaps []int
		want  []impl.Entry
	}{
		{nil, one}, {[]int{}, one},
		{[]int{9}, one}, {[]int{0}, one}, {[]int{-5}, one}, {[]int{math.MinInt}, one}, // below all
		{[]int{40}, one}, {[]int{41}, one}, {[]int{100001}, one}, {[]int{math.MaxInt}, one}, {wildSeqs, one}, // above all
		{[]int{20}, cut20}, {[]int{21}, cut20}, {[]int{25}, cut20}, {[]int{29}, cut20}, // at an entry, and between two
		{[]int{19}, []impl.Entry{add("a", 40, 9), put("a", 10, "t", 1)}}, {[]int{10}, []impl.Entry{add("a", 40, 9), put("a", 10, "t", 1)}},
		{[]int{30}, []impl.Entry{add("a", 40, 4), put("a", 30, "t", 6)}}, {[]int{39}, []impl.Entry{add("a", 40, 4), put("a", 30, "t", 6)}},
		{[]int{25, 25}, cut20}, {[]int{29, 20, 25, 20}, cut20}, {[]int{99, 25, 0, 25, -1}, cut20}, // told twice, and in no order
		{[]int{30, 10}, []impl.Entry{add("a", 40, 4), add("a", 30, 5), put("a", 10, "t", 1)}},
		{[]int{10, 20, 30}, each}, {[]int{35, 15, 25, 15}, each}, {[]int{30, 20, 10, 40, 0, math.MinInt, math.MaxInt}, each},
	} {
		cases = append(cases, squashCase{c.snaps, false, c.want}, squashCase{c.snaps, true, c.want})
	}
	squashes(t, list, cases)
}

func TestSquashOfWhatIsTakenAway(t *testing.T) {
	// the newest of its class, above something older
	squashes(t, []impl.Entry{del("a", 9), add("a", 5, 2), put("a", 3, "t", 1)}, []squashCase{
		{nil, false, []impl.Entry{del("a", 9)}},
		{nil, true, nil},
		{[]int{5}, false, []impl.Entry{del("a", 9), put("a", 5, "t", 3)}},
		{[]int{5}, true, []impl.Entry{del("a", 9), put("a", 5, "t", 3)}}, // it stays, as something is beneath it
		{[]int{3, 5}, true, []impl.Entry{del("a", 9), add("a", 5, 2), put("a", 3, "t", 1)}},
	})
	// not the newest of its class
	squashes(t, []impl.Entry{add("a", 9, 4), del("a", 7), add("a", 5, 2)}, []squashCase{
		{nil, false, []impl.Entry{put("a", 9, "", 4)}},
		{nil, true, []impl.Entry{put("a", 9, "", 4)}},
		{[]int{7}, false, []impl.Entry{add("a", 9, 4), del("a", 7)}},
		{[]int{7}, true, []impl.Entry{put("a", 9, "", 4)}},
		{[]int{5}, false, []impl.Entry{put("a", 9, "", 4), add("a", 5, 2)}},
		{[]int{5}, true, []impl.Entry{put("a", 9, "", 4), put("a", 5, "", 2)}},
		{[]int{5, 7}, false, []impl.Entry{add("a", 9, 4), del("a", 7), add("a", 5, 2)}},
		{[]int{5, 7}, true, []impl.Entry{add("a", 9, 4), del("a", 7), put("a", 5, "", 2)}},
	})
	// several, with times that are kept between them: at the bottom all go that have nothing beneath
	squashes(t, []impl.Entry{del("a", 9), add("a", 8, 4), del("a", 7), del("a", 5), put("b", 9, "u", 1), del("b", 7), del("b", 5), add("c", 9, 0), add("c", 8, 0)}, []squashCase{
		{[]int{5, 7}, false, []impl.Entry{del("a", 9), del("a", 7), del("a", 5), put("b", 9, "u", 1), del("b", 7), del("b", 5), add("c", 9, 0)}},
		{[]int{5, 7}, true, []impl.Entry{put("b", 9, "u", 1), put("c", 9, "", 0)}},
		{[]int{5, 7, 8}, true, []impl.Entry{del("a", 9), put("a", 8, "", 4), put("b", 9, "u", 1), add("c", 9, 0), put("c", 8, "", 0)}},
		{nil, true, []impl.Entry{put("b", 9, "u", 1), put("c", 9, "", 0)}},
	})
	// one taken away above what adds up to nothing: that is something
	squashes(t, []impl.Entry{del("a", 9), add("a", 8, 4), add("a", 7, -4)}, []squashCase{
		{[]int{8}, true, []impl.Entry{del("a", 9), put("a", 8, "", 0)}},
		{[]int{8}, false, []impl.Entry{del("a", 9), add("a", 8, 0)}},
	})
}

func TestSquashOfSumsAtTheirBound(t *testing.T) {
	for _, sign := range []int{1, -1} {
		most := sign * 1000000
		stays := func(list ...impl.Entry) {
			t.Helper()
			squashes(t, list, []squashCase{{nil, false, list}, {nil, true, list}})
		}
		squashes(t, []impl.Entry{add("a", 9, sign), add("a", 5, most-sign)}, []squashCase{
			{nil, false, []impl.Entry{add("a", 9, most)}}, {nil, true, []impl.Entry{put("a", 9, "", most)}},
		})
		stays(add("a", 9, sign), add("a", 5, most))
		squashes(t, []impl.Entry{add("a", 9, sign), put("a", 5, "t", most-sign)}, []squashCase{
			{nil, false, []impl.Entry{put("a", 9, "t", most)}}, {nil, true, []impl.Entry{put("a", 9, "t", most)}},
		})
		stays(add("a", 9, sign), put("a", 5, "t", most))
		stays(add("a", 9, most), add("a", 8, most), put("a", 5, "t", most))
		squashes(t, []impl.Entry{add("a", 9, sign), add("a", 7, most-sign), del("a", 5)}, []squashCase{
			{nil, false, []impl.Entry{put("a", 9, "", most)}}, {nil, true, []impl.Entry{put("a", 9, "", most)}},
		})
		stays(add("a", 9, sign), add("a", 7, most), del("a", 5))
		stays(add("a", 9, sign), add("a", 7, most), del("a", 5), put("a", 4, "t", 1), del("a", 3)) // with what is older too
		// only what is newer than a put or a taking away counts
		squashes(t, []impl.Entry{add("a", 9, sign), del("a", 7), add("a", 5, most), add("a", 4, most)}, []squashCase{
			{nil, false, []impl.Entry{put("a", 9, "", sign)}}, {nil, true, []impl.Entry{put("a", 9, "", sign)}},
		})
		squashes(t, []impl.Entry{del("a", 7), add("a", 5, most), add("a", 4, most)}, []squashCase{
			{nil, false, []impl.Entry{del("a", 7)}}, {nil, true, nil},
			// what stays as it is at the bottom is left there, so what is above it stays too
			{[]int{5}, false, []impl.Entry{del("a", 7), add("a", 5, most), add("a", 4, most)}}, {[]int{5}, true, []impl.Entry{del("a", 7), add("a", 5, most), add("a", 4, most)}},
		})
		squashes(t, []impl.Entry{add("a", 9, 3), add("a", 8, 4), add("a", 5, most), add("a", 4, most)}, []squashCase{
			{[]int{5}, true, []impl.Entry{add("a", 9, 7), add("a", 5, most), add("a", 4, most)}},
		})
		// one class stays, those around it do not
		squashes(t, []impl.Entry{add("a", 9, 3), add("a", 8, 4), add("a", 7, most), add("a", 6, most), add("a", 5, 1), put("a", 4, "t", 1), add("b", 2, 1), add("b", 1, 1)}, []squashCase{
			{[]int{5, 7}, false, []impl.Entry{add("a", 9, 7), add("a", 7, most), add("a", 6, most), put("a", 5, "t", 2), add("b", 2, 2)}},
			{[]int{5, 7}, true, []impl.Entry{add("a", 9, 7), add("a", 7, most), add("a", 6, most), put("a", 5, "t", 2), put("b", 2, "", 2)}},
		})
		// sums that go beyond and come back
		squashes(t, []impl.Entry{add("a", 9, -most), add("a", 8, most), add("a", 7, most)}, []squashCase{
			{nil, false, []impl.Entry{add("a", 9, most)}}, {nil, true, []impl.Entry{put("a", 9, "", most)}},
		})
	}
}

func TestSquashOfWhatIsNotOkOrNotInOrder(t *testing.T) {
	none := func(list ...impl.Entry) {
		t.Helper()
		for _, snaps := range [][]int{nil, {1, 5}} {
			for _, bottom := range []bool{false, true} {
				if got := impl.Squash(list, snaps, bottom); len(got) != 0 {
					t.Errorf("%.300v: %v", list, got)
				}
			}
		}
	}
	none(put("b", 1, "", 1), put("a", 1, "", 1))
	none(put("a", 1, "", 1), put("a", 2, "", 1))
	none(put("a", 1, "", 1), put("a", 1, "", 1))
	none(put("a", 1, "", 1), add("a", 1, 1))
	none(put("a", 5, "", 1), put("a", 4, "", 1), put("c", 5, "", 1), put("b", 5, "", 1))
	none(put("a", 5, "", 1), put("b", 4, "", 1), put("b", 5, "", 1), put("c", 5, "", 1))
	for _, e := range wrongEntries() {
		none(e)
		none(put("a", 9, "", 1), e)
		none(e, put("c", 2, "", 1))
		none(put("a", 9, "", 1), e, put("c", 2, "", 1))
		none(put("b", 9, "", 1), e, put("b", 2, "", 1))
	}
}

// tellsTheSame asks, with anything older beneath (nothing, at the bottom), what keys have at each time that is kept and at the last.
func tellsTheSame(t *testing.T, list []impl.Entry, snaps []int, bottom bool, beneath []impl.Entry) {
	t.Helper()
	if bottom {
		beneath = nil
	}
	few := slices.Concat(impl.Squash(list, snaps, bottom), beneath)
	all := slices.Concat(list, beneath)
	for _, e := range all {
		for _, seq := range append([]int{math.MaxInt, 100000}, snaps...) {
			if got, want := handCell(few, e.Key, seq), handCell(all, e.Key, seq); got != want {
				t.Fatalf("%v with %v, %v, above %v: %v tells %v of %q at %d, not %v", list, snaps, bottom, beneath, few, got, e.Key, seq, want)
			}
		}
	}
}

// Promise 6, of all lists of up to four entries of one key, with each choice of times, and each thing beneath.
func TestSquashedItTellsTheSame(t *testing.T) {
	beneaths := [][]impl.Entry{nil, {put("a", 1, "old", 5)}, {add("a", 1, 5)}, {del("a", 1)}, {add("a", 2, 700000), put("a", 1, "old", 700000)}}
	kinds := 5
	for n := 1; n <= 4; n++ {
		choices := 1
		for range n {
			choices *= kinds
		}
		for choice := range choices {
			var list []impl.Entry
			for i, c := 0, choice; i < n; i, c = i+1, c/kinds {
				seq := 10 - 2*i // 10, 8, 6, 4: all above what is beneath
				list = append(list, []impl.Entry{put("a", seq, "t", 3+i), del("a", seq), add("a", seq, 1+10*i), add("a", seq, 600000), put("a", seq, "", 500000)}[c%kinds])
			}
			for pick := range 1 << 7 {
				var snaps []int
				for i, seq := range []int{9, 3, 4, 6, 7, 10, 8} {
					if pick>>i&1 == 1 {
						snaps = append(snaps, seq)
					}
				}
				for _, bottom := range []bool{false, true} {
					got, want := impl.Squash(list, snaps, bottom), handSquash(list, snaps, bottom)
					if !slices.Equal(got, want) {
						t.Fatalf("%v with %v, %v: %v, not %v", list, snaps, bottom, got, want)
					}
				}
				if pick%8 == choice%8 { // what it tells is slower to ask
					for _, beneath := range beneaths {
						tellsTheSame(t, list, snaps, false, beneath)
					}
					tellsTheSame(t, list, snaps, true, nil)
				}
			}
		}
	}
}

// Promise 6, of many lists of several keys.
func TestSquashedItTellsTheSameOfManyKeys(t *testing.T) {
	for seed := range uint32(600) {
		x := seed
		list := okEntries(&x, 1+int(seed%50))
		for i := range list {
			if list[i].Seq += 10; list[i].Kind != impl.EntDel && seed%3 == 0 {
				list[i].N *= 40000
			}
		}
		list = handMerge([][]impl.Entry{list})
		beneath := okEntries(&x, int(seed%7))
		var snaps []int
		for range seed % 6 {
			x = x*1664525 + 1013904223
			snaps = append(snaps, int(x>>8)%26-2)
		}
		for _, bottom := range []bool{false, true} {
			got, want := impl.Squash(list, snaps, bottom), handSquash(list, snaps, bottom)
			if !slices.Equal(got, want) {
				t.Fatalf("%v with %v, %v: %v, not %v", list, snaps, bottom, got, want)
			}
			// squashed once, it stays so
			if again := impl.Squash(got, snaps, bottom); !slices.Equal(again, handSquash(got, snaps, bottom)) {
				t.Fatalf("%v with %v, %v: %v", got, snaps, bottom, again)
			}
			tellsTheSame(t, list, snaps, bottom, beneath)
		}
	}
}

// A list may be longer than a run.
func TestSquashOfALongList(t *testing.T) {
	var list []impl.Entry
	for seq := 2000; seq >= 1; seq-- {
		list = append(list, add("a", seq, 1))
	}
	squashes(t, list, []squashCase{
		{nil, false, []impl.Entry{add("a", 2000, 2000)}},
		{nil, true, []impl.Entry{put("a", 2000, "", 2000)}},
		{[]int{500, 1999}, true, []impl.Entry{add("a", 2000, 1), add("a", 1999, 1499), put("a", 500, "", 500)}},
	})
}

func TestRunsWriteNothingIntoTheirLists(t *testing.T) {
	room := []impl.Entry{add("c", 9, 5), put("b", 2, "t", 2), put("a", 3, "u", 1), del("a", 9), add("a", 4, 4), put("spare", 1, "s", 1), put("a", 2, "s", 1), add("a", 1, 1)}
	was := slices.Clone(room)
	if _, ok := impl.RunOf(room[:5]); !ok {
		t.Error("they make a run")
	}
	notInto(t, "RunOf", room, was)
	impl.MergeAll([][]impl.Entry{room[:3], room[3:5], room[:5]})
	notInto(t, "MergeAll", room, was)
	lists := [][]impl.Entry{room[:3], nil, room[3:5], room[5:6], room[:2]}
	impl.MergeAll(lists[:3])
	notInto(t, "MergeAll", room, was)
	if len(lists[0]) != 3 || lists[1] != nil || len(lists[2]) != 2 || len(lists[3]) != 1 || len(lists[4]) != 2 || &lists[0][0] != &room[0] {
		t.Errorf("MergeAll wrote into its lists: %v", lists)
	}

	in := append(handMerge([][]impl.Entry{room[:5]}), put("spare", 1, "s", 1), put("a", 2, "s", 1))
	inWas := slices.Clone(in)
	snaps := []int{9, 3, 5, 3, 77, -1}
	for _, bottom := range []bool{false, true} {
		impl.Squash(in[:5], snaps[:4], bottom)
		impl.Squash(room[:5], snaps[:4], bottom)
	}
	notInto(t, "Squash", in, inWas)
	notInto(t, "Squash", room, was)
	if !slices.Equal(snaps, []int{9, 3, 5, 3, 77, -1}) {
		t.Errorf("Squash wrote into its times: %v", snaps)
	}
	r := impl.Run{Ents: in[:5], Mask: handMask("a") | handMask("b") | handMask("c")}
	if !impl.RunOk(r) || !impl.RunMay(r, "a") || len(impl.RunFind(r, "a", 5)) != 2 || !impl.RunSame(r, r) {
		t.Errorf("%v", r)
	}
	wrong := impl.Run{Ents: room[:5], Mask: r.Mask}
	if impl.RunOk(wrong) || impl.RunMay(wrong, "a") || len(impl.RunFind(wrong, "a", 5)) != 0 || !impl.RunSame(wrong, wrong) {
		t.Errorf("%v", wrong)
	}
	notInto(t, "asking a run", in, inWas)
	notInto(t, "asking a run", room, was)
}

// ownMemory says whether entries that were answered, and their texts, are in no memory of those that were given.
func ownMemory(t *testing.T, what string, got []impl.Entry, given []impl.Entry) {
	t.Helper()
	was := slices.Clone(given)
	for i, e := range got {
		for _, g := range given {
			if unsafe.StringData(e.Key) == unsafe.StringData(g.Key) || e.Text != "" && unsafe.StringData(e.Text) == unsafe.StringData(g.Text) {
				t.Errorf("%s: a text of %v is in the memory of an argument", what, e)
			}
		}
		got[i] = impl.Entry{Key: "spoilt"}
	}
	for i, room := len(got), got[:cap(got)]; i < len(room); i++ {
		room[i] = impl.Entry{Key: "spoilt"}
	}
	notInto(t, what, given, was)
}

func TestRunsAreNewMemory(t *testing.T) {
	own := func(s string) string { return strings.Clone(s) }
	given := []impl.Entry{
		add(own("a/key"), 9, 1), put(own("a/key"), 5, own("some text"), 2), add(own("b/key"), 9, 1000000), put(own("b/key"), 5, own("other text"), 1000000),
		add(own("c/key"), 7, 3), put(own("d/key"), 7, own("fourth text"), 3), del(own("e/key"), 3), put(own("spare"), 1, own("spare text"), 1), put(own("spare"), 1, own("spare text"), 1),
	}
	list := given[:7]
	r := mustRun(t, list...)
	ownMemory(t, "RunOf", r.Ents, given)
	r = impl.Run{Ents: list, Mask: r.Mask}
	ownMemory(t, "RunFind", impl.RunFind(r, "a/key", 9), given)
	ownMemory(t, "RunFind", impl.RunFind(r, "a/key", 5), given)
	ownMemory(t, "RunFind", impl.RunFind(r, "a/key", 4), given)
	ownMemory(t, "RunFind", impl.RunFind(r, "none", 4), given)
	ownMemory(t, "MergeAll", impl.MergeAll([][]impl.Entry{list}), given)
	ownMemory(t, "MergeAll", impl.MergeAll([][]impl.Entry{nil, list[:3], list[3:5], list[5:]}), given)
	for _, bottom := range []bool{false, true} {
		ownMemory(t, "Squash", impl.Squash(list, nil, bottom), given)
		ownMemory(t, "Squash", impl.Squash(list, []int{5, 3}, bottom), given)
		ownMemory(t, "Squash", impl.Squash(given[4:7], nil, bottom), given)
	}
	// what is there twice in the lists is so in the answer, each in memory of its own
	twice := impl.MergeAll([][]impl.Entry{list, list})
	for i := 1; i < len(twice); i += 2 {
		if twice[i-1] != twice[i] || unsafe.StringData(twice[i-1].Key) == unsafe.StringData(twice[i].Key) {
			t.Errorf("%v and %v", twice[i-1], twice[i])
		}
	}
}
