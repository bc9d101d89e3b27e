package tests

import (
	"fmt"
	"maps"
	"math"
	"slices"
	"strings"
	"testing"
	"unsafe"

	"loop.example/comptoir/impl"
)

// lots is the entries of several runs.
type lots = [][]impl.Entry

// treeOf is a tree with runs of these entries, level by level.
func treeOf(t *testing.T, seq int, mem []impl.Entry, snaps []int, levels ...lots) impl.Tree {
	t.Helper()
	x := impl.Tree{Seq: seq, Mem: mem, Levels: make([][]impl.Run, 3), Snaps: snaps}
	for level, runs := range levels {
		for _, list := range runs {
			x.Levels[level] = append(x.Levels[level], mustRun(t, list...))
		}
	}
	if !impl.TreeOk(x) {
		t.Fatalf("%v is ok", x)
	}
	return x
}

// copyTree is a tree in memory of its own.
func copyTree(x impl.Tree) impl.Tree {
	x.Mem, x.Snaps, x.Levels = slices.Clone(x.Mem), slices.Clone(x.Snaps), slices.Clone(x.Levels)
	for level, runs := range x.Levels {
		x.Levels[level] = slices.Clone(runs)
		for i, r := range runs {
			x.Levels[level][i].Ents = slices.Clone(r.Ents)
		}
	}
	return x
}

// lotsOf is what treeOf is told: the entries of the runs of a level.
func lotsOf(x impl.Tree, level int) lots {
	var all lots
	for _, r := range x.Levels[level] {
		all = append(all, r.Ents)
	}
	return all
}

// timeless is entries that are still to get their Seq.
func timeless(list ...impl.Entry) []impl.Entry {
	list = slices.Clone(list)
	for i := range list {
		list[i].Seq = 0
	}
	return list
}

// fine is a tree behind something that is done to it.
func fine(t *testing.T) func(x impl.Tree, ok bool) impl.Tree {
	return func(x impl.Tree, ok bool) impl.Tree {
		t.Helper()
		if !ok || !handTreeOk(x) {
			t.Fatalf("%v, of %v", ok, x)
		}
		return x
	}
}

// notDone says that something was refused, and told the tree as it was.
func notDone(t *testing.T, was impl.Tree) func(x impl.Tree, ok bool) {
	return func(x impl.Tree, ok bool) {
		t.Helper()
		if ok || !impl.TreeSame(x, was) {
			t.Errorf("%v, and %v, not %v", ok, x, was)
		}
	}
}

// levelsAre holds the entries of runs, level by level, against what is told.
func levelsAre(t *testing.T, x impl.Tree, want ...lots) {
	t.Helper()
	for level, runs := range want {
		if got := lotsOf(x, level); fmt.Sprint(got) != fmt.Sprint(runs) {
			t.Errorf("level %d: %v, not %v", level, got, runs)
		}
	}
}

func handInOrder(list []impl.Entry) bool {
	for i, e := range list {
		if !impl.EntryOk(e) {
			return false
		}
		for _, o := range list[:i] {
			if o.Key > e.Key || o.Key == e.Key && o.Seq <= e.Seq {
				return false
			}
		}
	}
	return true
}

// handRun is entries in order with their marks.
func handRun(list []impl.Entry) impl.Run {
	r := impl.Run{Ents: list}
	for _, e := range list {
		r.Mask |= handMask(e.Key)
	}
	return r
}

func handMeet(a []impl.Entry, b []impl.Entry) bool {
	return a[len(a)-1].Key >= b[0].Key && b[len(b)-1].Key >= a[0].Key
}

// handTreeOk asks of each two entries of a key which one stands above.
func handTreeOk(x impl.Tree) bool {
	if x.Seq < 0 || x.Seq > 100000 || len(x.Mem) > 60 || !handInOrder(x.Mem) || len(x.Levels) != 3 || len(x.Snaps) > 4 {
		return false
	}
	for i, seq := range x.Snaps {
		if seq < 0 || seq > x.Seq || i > 0 && x.Snaps[i-1] >= seq {
			return false
		}
	}
	depth := map[string][][2]int{} // of each key's entries how deep they stand, and their Seq
	stands := func(list []impl.Entry, deep int) {
		for _, e := range list {
			depth[e.Key] = append(depth[e.Key], [2]int{deep, e.Seq})
		}
	}
	stands(x.Mem, 0)
	for level, runs := range x.Levels {
		if level == 0 && len(runs) > 4 || len(runs) > 8 {
			return false
		}
		for i, r := range runs {
			if len(r.Ents) < 1 || len(r.Ents) > 150 || !handInOrder(r.Ents) || handRun(r.Ents).Mask != r.Mask {
				return false
			}
			if level > 0 && i > 0 && runs[i-1].Ents[len(runs[i-1].Ents)-1].Key >= r.Ents[0].Key {
				return false
			}
			if level == 0 {
				stands(r.Ents, 10-i)
			} else {
				stands(r.Ents, 10+level)
			}
		}
	}
	for _, list := range depth {
		for _, a := range list {
			if a[1] > x.Seq {
				return false
			}
			for _, b := range list {
				if a[0] < b[0] && a[1] <= b[1] {
					return false
				}
			}
		}
	}
	return true
}

// handCompact is TreeCompact, with runs that are asked one by one whether they meet.
func handCompact(x impl.Tree, level int, pick int) (impl.Tree, bool) {
	if level != 0 && level != 1 {
		return x, false
	}
	var stay, apart []impl.Run
	var taken lots
	for i, r := range x.Levels[level] {
		if level == 0 || i == pick {
			taken = append(taken, r.Ents)
		} else {
			stay = append(stay, r)
		}
	}
	if len(taken) == 0 {
		return x, false
	}
	top := handMerge(taken)
	for _, r := range x.Levels[level+1] {
		if handMeet(r.Ents, top) {
			taken = append(taken, r.Ents)
		} else {
			apart = append(apart, r)
		}
	}
	all := handMerge(taken)
	bottom := true
	for _, r := range x.Levels[2] {
		bottom = bottom && (level == 1 || !handMeet(r.Ents, all))
	}
	var next []impl.Run
	var part []impl.Entry
	for _, e := range handSquash(all, x.Snaps, bottom) {
		if len(part) >= 20 && part[len(part)-1].Key != e.Key {
			next, part = append(next, handRun(part)), nil
		}
		part = append(part, e)
	}
	if len(part) > 0 {
		next = append(next, handRun(part))
	}
	if slices.ContainsFunc(next, func(r impl.Run) bool { return len(r.Ents) > 150 }) || len(next)+len(apart) > 8 {
		return x, false
	}
	next = append(next, apart...)
	slices.SortFunc(next, func(a, b impl.Run) int { return strings.Compare(a.Ents[0].Key, b.Ents[0].Key) })
	x.Levels = slices.Clone(x.Levels)
	x.Levels[level], x.Levels[level+1] = stay, next
	return x, true
}

// compacts compacts a tree, holds what comes of it against what is worked out by hand, and says whether it was done.
func compacts(t *testing.T, x impl.Tree, level int, pick int) (impl.Tree, bool) {
	t.Helper()
	want, done := handCompact(copyTree(x), level, pick)
	got, ok := impl.TreeCompact(x, level, pick)
	if ok != done || !impl.TreeSame(got, want) || !handTreeOk(got) {
		t.Fatalf("level %d, pick %d: %v, %v, not %v, %v", level, pick, got, ok, want, done)
	}
	return got, ok
}

func TestTreeNew(t *testing.T) {
	x := impl.TreeNew()
	if x.Seq != 0 || len(x.Mem) != 0 || len(x.Levels) != 3 || len(x.Snaps) != 0 || !impl.TreeOk(x) {
		t.Fatalf("%v", x)
	}
	levelsAre(t, x, nil, nil, nil)
	if len(impl.TreeAll(x)) != 0 || impl.TreeCell(x, "a", 5) != (impl.Cell{}) {
		t.Error("it has something")
	}
	notDone(t, x)(impl.TreeFlush(x))
	notDone(t, x)(impl.TreeCompact(x, 0, 0))
	notDone(t, x)(impl.TreeCompact(x, 1, 0))
	notDone(t, x)(impl.TreeDrop(x, 0))
	x.Levels[0] = append(x.Levels[0], impl.Run{})
	x.Seq = 9
	if y := impl.TreeNew(); y.Seq != 0 || len(y.Levels[0]) != 0 {
		t.Errorf("%v", y)
	}
}

func TestTreeWrite(t *testing.T) {
	done := fine(t)
	x := done(impl.TreeWrite(impl.TreeNew(), timeless(put("b", 0, "t", 5), add("a", 0, 1), del("b", 0), add("n", 0, 3))))
	if x.Seq != 4 || !slices.Equal(x.Mem, []impl.Entry{add("a", 2, 1), del("b", 3), put("b", 1, "t", 5), add("n", 4, 3)}) {
		t.Fatalf("%v", x)
	}
	x = done(impl.TreeWrite(x, timeless(add("b", 0, 7), put("0", 0, "u", 0))))
	if x.Seq != 6 || !slices.Equal(x.Mem, []impl.Entry{put("0", 6, "u", 0), add("a", 2, 1), add("b", 5, 7), del("b", 3), put("b", 1, "t", 5), add("n", 4, 3)}) || len(x.Snaps) != 0 {
		t.Fatalf("%v", x)
	}
	levelsAre(t, x, nil, nil, nil)
	// runs and times that are kept stay as they are
	was := treeOf(t, 20, []impl.Entry{put("m", 20, "", 1)}, []int{3, 20}, lots{{add("a", 15, 1)}}, lots{{del("a", 9)}}, lots{{put("a", 2, "t", 1)}})
	x = done(impl.TreeWrite(was, timeless(del("a", 0))))
	was.Seq, was.Mem = 21, []impl.Entry{del("a", 21), put("m", 20, "", 1)}
	if !impl.TreeSame(x, was) {
		t.Errorf("%v", x)
	}
}

// manyKeys is n entries that may be written, each of a key of its own.
func manyKeys(n int) []impl.Entry {
	var list []impl.Entry
	for i := range n {
		list = append(list, put(fmt.Sprintf("w%03d", i*7%n), 0, "t", i))
	}
	return list
}

func TestTreeWriteUpToItsBounds(t *testing.T) {
	done := fine(t)
	x := impl.TreeNew()
	for _, n := range []int{13, 14, 60, 61, 1000} {
		notDone(t, x)(impl.TreeWrite(x, manyKeys(n)))
	}
	// 60 entries in Mem, and no more
	for i := range 5 {
		x = done(impl.TreeWrite(x, manyKeys(12)))
		if x.Seq != 12*(i+1) || len(x.Mem) != x.Seq {
			t.Fatalf("%v", x)
		}
	}
	notDone(t, x)(impl.TreeWrite(x, manyKeys(1)))
	notDone(t, x)(impl.TreeWrite(x, manyKeys(12)))
	x = done(impl.TreeFlush(x))
	for range 4 {
		x = done(impl.TreeWrite(x, manyKeys(12)))
	}
	x = done(impl.TreeWrite(x, manyKeys(7)))
	notDone(t, x)(impl.TreeWrite(x, manyKeys(6)))
	if y := done(impl.TreeWrite(x, manyKeys(5))); len(y.Mem) != 60 || y.Seq != 120 {
		t.Errorf("%v", y)
	}
	// a Seq of 100000, and no more
	x = impl.TreeNew()
	x.Seq = 99990
	notDone(t, x)(impl.TreeWrite(x, manyKeys(11)))
	y := done(impl.TreeWrite(x, manyKeys(10)))
	if y.Seq != 100000 || impl.TreeCell(y, "w000", 100000).N != 0 || len(impl.TreeAll(y)) != 10 {
		t.Errorf("%v", y)
	}
	notDone(t, y)(impl.TreeWrite(y, manyKeys(1)))
	y = done(impl.TreeSnap(y))
	y = done(impl.TreeFlush(y))
	notDone(t, y)(impl.TreeWrite(y, manyKeys(1)))
}

func TestTreeWriteOfWrongBatches(t *testing.T) {
	x := treeOf(t, 20, []impl.Entry{put("m", 20, "", 1)}, []int{20}, lots{{add("a", 15, 1)}}, lots{{del("a", 9)}})
	refuse := func(batch ...impl.Entry) {
		t.Helper()
		notDone(t, x)(impl.TreeWrite(x, batch))
	}
	refuse()
	refuse([]impl.Entry{}...)
	refuse(manyKeys(3)[:0]...)
	a, c := put("a", 0, "", 1), put("c", 0, "", 1)
	for _, seq := range append(wildSeqs, 20, 21, 22) {
		if e := put("b", seq, "", 1); seq != 0 {
			refuse(e)
			refuse(e, a, c)
			refuse(a, e, c)
			refuse(a, c, e)
		}
	}
	for _, e := range wrongEntries() {
		if e.Seq = 0; impl.EntryOk(put(e.Key, 1, e.Text, e.N)) && e.Kind == impl.EntPut {
			continue // it was its Seq alone that was wrong
		}
		refuse(e)
		refuse(e, a, c)
		refuse(a, e, c)
		refuse(a, c, e)
	}
	if y, ok := impl.TreeWrite(x, []impl.Entry{a, c}); !ok || y.Seq != 22 {
		t.Errorf("%v", y)
	}
}

func TestTreeFlush(t *testing.T) {
	done := fine(t)
	x := done(impl.TreeWrite(impl.TreeNew(), timeless(add("a", 0, 1), add("a", 0, 2), put("b", 0, "t", 5), del("b", 0), add("c", 0, 4), add("a", 0, 3))))
	flat := done(impl.TreeFlush(x))
	// not as the bottom, though there is nothing beneath
	levelsAre(t, flat, lots{{add("a", 6, 6), del("b", 4), add("c", 5, 4)}}, nil, nil)
	if flat.Seq != 6 || len(flat.Mem) != 0 || flat.Levels[0][0].Mask != handMask("a")|handMask("b")|handMask("c") {
		t.Errorf("%v", flat)
	}
	notDone(t, flat)(impl.TreeFlush(flat))
	// with times that are kept, between entries, at the last, and behind all of them
	x.Snaps = []int{1, 3, 6}
	kept := done(impl.TreeFlush(x))
	levelsAre(t, kept, lots{{add("a", 6, 3), add("a", 2, 2), add("a", 1, 1), del("b", 4), put("b", 3, "t", 5), add("c", 5, 4)}})
	if !slices.Equal(kept.Snaps, x.Snaps) || len(kept.Mem) != 0 {
		t.Errorf("%v", kept)
	}
	// behind all runs of level 0; what is beneath stays
	y := done(impl.TreeFlush(done(impl.TreeWrite(kept, timeless(del("a", 0))))))
	if len(y.Levels[0]) != 2 || !impl.RunSame(y.Levels[0][0], kept.Levels[0][0]) || !slices.Equal(y.Levels[0][1].Ents, []impl.Entry{del("a", 7)}) {
		t.Errorf("%v", y)
	}
}

func TestTreeFlushUpToItsBounds(t *testing.T) {
	done := fine(t)
	x := impl.TreeNew()
	for i := range 4 {
		x = done(impl.TreeWrite(x, manyKeys(3)))
		x = done(impl.TreeFlush(x))
		if len(x.Levels[0]) != i+1 || x.Levels[0][i].Ents[0].Seq <= 3*i {
			t.Fatalf("%v", x)
		}
		notDone(t, x)(impl.TreeFlush(x))
	}
	x = done(impl.TreeWrite(x, manyKeys(3)))
	notDone(t, x)(impl.TreeFlush(x))
	x, _ = compacts(t, x, 0, 0)
	if x = done(impl.TreeFlush(x)); len(x.Levels[0]) != 1 || len(x.Levels[1]) != 1 {
		t.Errorf("%v", x)
	}
	// a Mem of 60 of one key, and of 60 keys
	one, all := impl.TreeNew(), impl.TreeNew()
	for range 5 {
		batch := make([]impl.Entry, 12)
		for i := range batch {
			batch[i] = add("k", 0, 1)
		}
		one = done(impl.TreeWrite(one, batch))
	}
	levelsAre(t, done(impl.TreeFlush(one)), lots{{add("k", 60, 60)}})
	for i := range 5 {
		all = done(impl.TreeWrite(all, manyKeys(60)[12*i:12*i+12]))
	}
	if y := done(impl.TreeFlush(all)); len(y.Levels[0][0].Ents) != 60 {
		t.Errorf("%v", y)
	}
}

func TestTreeSnapAndDrop(t *testing.T) {
	done := fine(t)
	kept := func(x impl.Tree, want ...int) {
		t.Helper()
		if !slices.Equal(x.Snaps, want) {
			t.Errorf("%v, not %v", x.Snaps, want)
		}
	}
	x := done(impl.TreeSnap(impl.TreeNew()))
	kept(x, 0)
	notDone(t, x)(impl.TreeSnap(x)) // kept twice
	for i := range 3 {
		x = done(impl.TreeWrite(x, timeless(add("a", 0, 1), add("b", 0, 1))))
		x = done(impl.TreeSnap(x))
		notDone(t, x)(impl.TreeSnap(x))
		if len(x.Snaps) != i+2 || x.Seq != 2*i+2 || len(x.Mem) != x.Seq {
			t.Fatalf("%v", x)
		}
	}
	kept(x, 0, 2, 4, 6)
	more := done(impl.TreeWrite(x, timeless(add("a", 0, 1))))
	notDone(t, more)(impl.TreeSnap(more)) // a fifth
	for _, seq := range append([]int{3, 5, 7}, wildSeqs...) {
		if seq != 0 {
			notDone(t, more)(impl.TreeDrop(more, seq))
		}
	}
	kept(done(impl.TreeDrop(more, 0)), 2, 4, 6)
	kept(done(impl.TreeDrop(more, 2)), 0, 4, 6)
	kept(done(impl.TreeDrop(more, 6)), 0, 2, 4)
	less := done(impl.TreeDrop(more, 4))
	kept(less, 0, 2, 6)
	notDone(t, less)(impl.TreeDrop(less, 4)) // dropped twice
	kept(done(impl.TreeSnap(less)), 0, 2, 6, 7)
	// the last one is dropped, and kept again, as nothing was written since
	x = done(impl.TreeDrop(x, 6))
	kept(x, 0, 2, 4)
	kept(done(impl.TreeSnap(x)), 0, 2, 4, 6)
	for _, seq := range []int{2, 4, 0} {
		x = done(impl.TreeDrop(x, seq))
	}
	kept(x)
	notDone(t, x)(impl.TreeDrop(x, 0))
	if x.Seq != 6 || len(x.Mem) != 6 {
		t.Errorf("%v", x)
	}
	// nothing else is turned
	was := treeOf(t, 20, []impl.Entry{put("m", 20, "", 1)}, []int{3, 9}, lots{{add("a", 15, 1)}}, lots{{del("a", 9)}}, lots{{put("a", 2, "t", 1)}})
	x = done(impl.TreeSnap(was))
	kept(x, 3, 9, 20)
	if x = done(impl.TreeDrop(x, 20)); !impl.TreeSame(x, was) {
		t.Errorf("%v", x)
	}
}

// A time that is kept and dropped again tells nothing of its own any more behind a compaction, and those around it still do.
func TestATimeThatIsKeptAndDropped(t *testing.T) {
	done := fine(t)
	x := impl.TreeNew()
	for range 3 {
		x = done(impl.TreeWrite(x, timeless(add("a", 0, 1))))
		x = done(impl.TreeSnap(x))
	}
	x = done(impl.TreeFlush(done(impl.TreeWrite(x, timeless(add("a", 0, 1))))))
	levelsAre(t, x, lots{{add("a", 4, 1), add("a", 3, 1), add("a", 2, 1), add("a", 1, 1)}})
	x, _ = compacts(t, x, 0, 0)
	levelsAre(t, x, nil, lots{{add("a", 4, 1), add("a", 3, 1), add("a", 2, 1), put("a", 1, "", 1)}})
	x = done(impl.TreeDrop(x, 2))
	if impl.TreeCell(x, "a", 2) != has("", 2) {
		t.Error("until it is compacted, it is still there")
	}
	x, _ = compacts(t, x, 1, 0)
	levelsAre(t, x, nil, nil, lots{{add("a", 4, 1), add("a", 3, 2), put("a", 1, "", 1)}})
	for seq, n := range []int{0, 1, 1, 3, 4, 4} {
		want := has("", n)
		if seq == 0 {
			want = impl.Cell{}
		}
		if got := impl.TreeCell(x, "a", seq); got != want {
			t.Errorf("at %d: %v", seq, got)
		}
	}
}

func TestTreeCompactOfTheFirstLevel(t *testing.T) {
	done := fine(t)
	x := impl.TreeNew()
	for _, batch := range [][]impl.Entry{
		timeless(put("a", 0, "t", 5), add("b", 0, 1), del("c", 0)),
		timeless(add("a", 0, 1), put("c", 0, "u", 2), add("d", 0, 9)),
		timeless(del("d", 0), add("b", 0, 3)),
	} {
		x = done(impl.TreeFlush(done(impl.TreeWrite(x, batch))))
	}
	if len(x.Levels[0]) != 3 {
		t.Fatalf("%v", x)
	}
	// all runs are taken, whatever the pick is
	for _, pick := range append([]int{2, 3, 4, 99}, wildSeqs...) {
		y, ok := compacts(t, x, 0, pick)
		levelsAre(t, y, nil, lots{{put("a", 4, "t", 6), put("b", 8, "", 4), put("c", 5, "u", 2)}}, nil)
		if !ok || y.Seq != 8 || len(y.Mem) != 0 {
			t.Errorf("%v", y)
		}
	}
	// what is in Mem, and the times that are kept, stay
	x = done(impl.TreeWrite(done(impl.TreeSnap(x)), timeless(add("a", 0, 100))))
	y, _ := compacts(t, x, 0, 0)
	if !slices.Equal(y.Mem, []impl.Entry{add("a", 9, 100)}) || !slices.Equal(y.Snaps, []int{8}) || y.Seq != 9 {
		t.Errorf("%v", y)
	}
	notDone(t, y)(impl.TreeCompact(y, 0, 0))
}

func TestTreeCompactWhereThereIsNone(t *testing.T) {
	x := treeOf(t, 50, []impl.Entry{add("a", 50, 1)}, nil, lots{{add("a", 40, 1)}}, lots{{add("a", 30, 1)}, {add("b", 30, 1)}}, lots{{add("a", 20, 1)}})
	for _, level := range append([]int{2, 3, 4, 99, -2}, wildSeqs...) {
		if level == 0 || level == 1 {
			continue
		}
		for _, pick := range []int{-1, 0, 1} {
			notDone(t, x)(impl.TreeCompact(x, level, pick))
		}
	}
	for _, pick := range append([]int{2, 3, -2}, wildSeqs...) {
		if pick != 0 && pick != 1 {
			notDone(t, x)(impl.TreeCompact(x, 1, pick))
		}
	}
	for pick := range 2 {
		if _, ok := compacts(t, x, 1, pick); !ok {
			t.Errorf("the run at %d is there", pick)
		}
	}
	x.Levels[0], x.Levels[1] = nil, []impl.Run{}
	for _, pick := range append([]int{2, 3}, wildSeqs...) {
		notDone(t, x)(impl.TreeCompact(x, 0, pick))
		notDone(t, x)(impl.TreeCompact(x, 1, pick))
	}
}

// Runs of the next level are taken if their ranges meet the range of all those taken: also at one key, and where it is between two runs.
func TestTreeCompactTakesWhatMeets(t *testing.T) {
	one := func(first string, last string, seq int) []impl.Entry {
		return []impl.Entry{add(first, seq, 1), add(last, seq, 1)}
	}
	beneath := lots{one("a", "c", 10), one("f", "h", 10), one("m", "p", 10), one("t", "v", 10)}
	for _, c := range []struct {
		above lots
		taken int // how many of them meet it
		at    int // where the first of these stands, or what comes of it
	}{
		{lots{one("d", "e", 20)}, 0, 1},   // between two
		{lots{one("0", "9", 20)}, 0, 0},   // ahead of all
		{lots{one("w", "z", 20)}, 0, 4},   // behind all
		{lots{one("c0", "ez", 20)}, 0, 1}, // just between two
		{lots{one("c", "e", 20)}, 1, 0},   // at one key, at its end
		{lots{one("d", "f", 20)}, 1, 1},   // at one key, at its beginning
		{lots{one("c", "f", 20)}, 2, 0},
		{lots{one("g", "n", 20)}, 2, 1},
		{lots{one("d", "i", 20)}, 1, 1}, // all of one is in it
		{lots{one("n", "o", 20)}, 1, 2}, // it is all in one
		{lots{one("0", "z", 20)}, 4, 0}, // all
		{lots{one("h", "t", 20)}, 3, 1},
		{lots{one("v", "v0", 20)}, 1, 3},
		{lots{one("d", "e", 20), one("w", "x", 25)}, 3, 1}, // it is between two runs
		{lots{one("i", "k", 25), one("d", "e", 20)}, 1, 1},
		{lots{one("q", "r", 25), one("j", "k", 22), one("q", "s", 20)}, 1, 2},
		{lots{{add("b", 20, 1)}}, 1, 0}, // a run of one key: in a range, at its ends, and between two
		{lots{{add("a", 20, 1)}}, 1, 0},
		{lots{{add("p", 20, 1)}}, 1, 2},
		{lots{{add("r", 20, 1)}}, 0, 3},
		{lots{{add("b", 20, 1)}, {add("u", 21, 1)}}, 4, 0},
	} {
		for level := range 2 {
			x := impl.Tree{Seq: 30, Levels: make([][]impl.Run, 3)}
			if level == 1 && len(c.above) > 1 {
				continue
			}
			for _, list := range c.above {
				x.Levels[level] = append(x.Levels[level], mustRun(t, list...))
			}
			if level == 0 {
				// the greater Seq is in the later run
				slices.SortFunc(x.Levels[0], func(a, b impl.Run) int { return a.Ents[0].Seq - b.Ents[0].Seq })
			}
			for _, list := range beneath {
				x.Levels[level+1] = append(x.Levels[level+1], mustRun(t, list...))
			}
			y, ok := compacts(t, x, level, 0)
			next := y.Levels[level+1]
			if !ok || len(next) != 5-c.taken || len(y.Levels[level]) != 0 {
				t.Errorf("%v: %v", c.above, y)
				continue
			}
			for i, r := range x.Levels[level+1] {
				at := i // those that were not taken stand as they stood, around what came of the others
				if i >= c.at {
					at = i + 1 - c.taken
				}
				if i < c.at || i >= c.at+c.taken {
					if !impl.RunSame(next[at], r) {
						t.Errorf("%v: the run at %d: %v", c.above, i, next)
					}
				}
			}
		}
	}
}

// Of level 1 the picked run is taken, and no other one.
func TestTreeCompactOfTheSecondLevel(t *testing.T) {
	x := treeOf(t, 50, []impl.Entry{add("b", 50, 1)}, nil,
		lots{{del("b", 40), add("f", 40, 1)}},
		lots{{add("a", 30, 1), del("b", 30)}, {put("d", 30, "t", 1)}, {del("f", 30), add("g", 30, 1)}},
		lots{{put("b", 9, "old", 4), put("c", 9, "old", 4)}, {put("e", 9, "old", 4)}, {put("g", 9, "old", 4), put("h", 9, "old", 4)}})
	for pick, want := range []lots{
		{{put("a", 30, "", 1), put("c", 9, "old", 4)}, {put("e", 9, "old", 4)}, {put("g", 9, "old", 4), put("h", 9, "old", 4)}},
		{{put("b", 9, "old", 4), put("c", 9, "old", 4)}, {put("d", 30, "t", 1)}, {put("e", 9, "old", 4)}, {put("g", 9, "old", 4), put("h", 9, "old", 4)}},
		{{put("b", 9, "old", 4), put("c", 9, "old", 4)}, {put("e", 9, "old", 4)}, {put("g", 30, "old", 5), put("h", 9, "old", 4)}},
	} {
		y, ok := compacts(t, x, 1, pick)
		if !ok || !impl.RunSame(y.Levels[0][0], x.Levels[0][0]) || !slices.Equal(y.Mem, x.Mem) {
			t.Errorf("%v", y)
		}
		levelsAre(t, y, lotsOf(x, 0), slices.Delete(lotsOf(x, 1), pick, pick+1), want)
	}
}

// What is taken away, and what is added, stays so above a level that may have something of it, and goes, or is put, above none.
func TestTreeCompactAboveTheLastLevel(t *testing.T) {
	above := []impl.Entry{del("c", 40), add("d", 40, 5), put("e", 40, "t", 1)}
	stays := lots{above}
	goes := lots{{put("d", 40, "", 5), put("e", 40, "t", 1)}}
	for _, c := range []struct {
		last lots
		want lots
	}{
		{nil, goes},
		{lots{{put("c", 9, "old", 4)}}, stays}, // it still has it
		{lots{{put("d", 9, "old", 4)}}, stays},
		{lots{{put("cc", 9, "old", 4)}}, stays},                   // it has it not, but meets the range
		{lots{{put("a", 9, "", 1), put("z", 9, "", 1)}}, stays},   // all is in its range
		{lots{{put("a", 9, "", 1), put("c", 9, "", 1)}}, stays},   // they meet at one key
		{lots{{put("e", 9, "", 1), put("z", 9, "", 1)}}, stays},   // and at the other end
		{lots{{put("a", 9, "", 1), put("b/", 9, "", 1)}}, goes},   // it ends ahead
		{lots{{put("e0", 9, "", 1)}}, goes},                       // it begins behind
		{lots{{put("b", 9, "", 1)}, {put("f", 9, "", 1)}}, goes},  // on both sides
		{lots{{put("b", 9, "", 1)}, {put("e", 9, "", 1)}}, stays}, // one of them meets it
		{lots{{put("0", 9, "", 1)}, {put("a", 9, "", 1)}, {put("c", 9, "", 1)}, {put("g", 9, "", 1)}}, stays},
	} {
		x := treeOf(t, 50, nil, nil, lots{above}, nil, c.last)
		y, ok := compacts(t, x, 0, 0)
		if !ok {
			t.Errorf("%v", c.last)
		}
		levelsAre(t, y, nil, c.want, c.last)
	}
	// the range is that of all entries: with those of runs of level 1 that are taken too
	x := treeOf(t, 50, nil, nil, lots{above}, lots{{put("a", 20, "", 1), put("c", 20, "", 1)}}, lots{{put("b", 9, "", 1)}})
	y, _ := compacts(t, x, 0, 0)
	levelsAre(t, y, nil, lots{{put("a", 20, "", 1), del("c", 40), add("d", 40, 5), put("e", 40, "t", 1)}}, lotsOf(x, 2))
	x = treeOf(t, 50, nil, nil, lots{above}, lots{{put("a", 20, "", 1), put("b", 20, "", 1)}}, lots{{put("b", 9, "", 1)}})
	y, _ = compacts(t, x, 0, 0)
	levelsAre(t, y, nil, append(lotsOf(x, 1), goes...), lotsOf(x, 2))
	// to the last level all is at the bottom, and what is taken away may leave nothing
	x = treeOf(t, 50, nil, nil, nil, lots{{del("c", 40)}, {del("f", 40), add("g", 40, 1)}}, lots{{put("c", 9, "old", 4)}, {put("g", 9, "old", 4)}})
	y, _ = compacts(t, x, 1, 0)
	levelsAre(t, y, nil, lotsOf(x, 1)[1:], lotsOf(x, 2)[1:])
	y, _ = compacts(t, y, 1, 0)
	levelsAre(t, y, nil, nil, lots{{put("g", 40, "old", 5)}})
	x = treeOf(t, 50, nil, nil, lots{{del("c", 40)}}, nil, nil)
	y, _ = compacts(t, x, 0, 0)
	levelsAre(t, y, nil, nil, nil)
	// but not what a time that is kept still has
	x = treeOf(t, 50, nil, []int{9}, nil, lots{{del("c", 40)}}, lots{{put("c", 9, "old", 4)}})
	y, _ = compacts(t, x, 1, 0)
	levelsAre(t, y, nil, nil, lots{{del("c", 40), put("c", 9, "old", 4)}})
	if impl.TreeCell(y, "c", 9) != has("old", 4) || impl.TreeCell(y, "c", 50).Has {
		t.Errorf("%v", y)
	}
}

// What is taken away hides what is beneath, until both meet.
func TestWhatIsTakenAwayStaysSo(t *testing.T) {
	done := fine(t)
	x := impl.TreeNew()
	down := func(batch ...impl.Entry) {
		t.Helper()
		x = done(impl.TreeFlush(done(impl.TreeWrite(x, timeless(batch...)))))
		x, _ = compacts(t, x, 0, 0)
	}
	down(put("a", 0, "t", 5), put("b", 0, "u", 6))
	x, _ = compacts(t, x, 1, 0)
	down(del("a", 0))
	levelsAre(t, x, nil, lots{{del("a", 3)}}, lots{{put("a", 1, "t", 5), put("b", 2, "u", 6)}})
	down(add("a", 0, 1), del("a", 0))
	levelsAre(t, x, nil, lots{{del("a", 5)}})
	if impl.TreeCell(x, "a", 5).Has || impl.TreeCell(x, "b", 5) != has("u", 6) {
		t.Errorf("%v", x)
	}
	down(add("a", 0, 2))
	levelsAre(t, x, nil, lots{{put("a", 6, "", 2)}})
	down(del("a", 0))
	x, _ = compacts(t, x, 1, 0)
	levelsAre(t, x, nil, nil, lots{{put("b", 2, "u", 6)}})
	down(del("b", 0))
	x, _ = compacts(t, x, 1, 0)
	levelsAre(t, x, nil, nil, nil)
	if x.Seq != 8 || len(impl.TreeAll(x)) != 0 {
		t.Errorf("%v", x)
	}
}

// heapOf is n entries of a key that no squashing can bring together, from a Seq on.
func heapOf(key string, from int, n int) []impl.Entry {
	var list []impl.Entry
	for i := range n {
		list = append(list, add(key, from+i, 1000000))
	}
	return list
}

// keysFrom is n puts of keys that begin with a letter.
func keysFrom(letter string, seq int, n int) []impl.Entry {
	var list []impl.Entry
	for i := range n {
		list = append(list, put(fmt.Sprintf("%s%03d", letter, i), seq, "", i))
	}
	return list
}

// sizes is how many entries the runs of a level have.
func sizes(x impl.Tree, level int) []int {
	var all []int
	for _, r := range x.Levels[level] {
		all = append(all, len(r.Ents))
	}
	return all
}

func TestTreeCompactCutsIntoRuns(t *testing.T) {
	for _, c := range []struct {
		list []impl.Entry
		want []int
	}{
		{keysFrom("k", 5, 1), []int{1}},
		{keysFrom("k", 5, 19), []int{19}},
		{keysFrom("k", 5, 20), []int{20}},
		{keysFrom("k", 5, 21), []int{20, 1}},
		{keysFrom("k", 5, 40), []int{20, 20}},
		{keysFrom("k", 5, 41), []int{20, 20, 1}},
		{keysFrom("k", 5, 150), []int{20, 20, 20, 20, 20, 20, 20, 10}},
		// a key with many entries is never cut, and what is behind it begins a new run
		{slices.Concat(heapOf("a", 1, 19), keysFrom("k", 5, 1)), []int{20}},
		{slices.Concat(heapOf("a", 1, 19), keysFrom("k", 5, 2)), []int{20, 1}},
		{slices.Concat(heapOf("a", 1, 20), keysFrom("k", 5, 1)), []int{20, 1}},
		{slices.Concat(heapOf("a", 1, 21), keysFrom("k", 5, 1)), []int{21, 1}},
		{slices.Concat(heapOf("a", 1, 50), keysFrom("k", 5, 25)), []int{50, 20, 5}},
		{slices.Concat(keysFrom("k", 5, 19), heapOf("z", 1, 30), keysFrom("zz", 5, 3)), []int{49, 3}},
		{slices.Concat(keysFrom("k", 5, 20), heapOf("z", 1, 30), keysFrom("zz", 5, 3)), []int{20, 30, 3}},
		{slices.Concat(keysFrom("k", 5, 21), heapOf("z", 1, 30), keysFrom("zz", 5, 3)), []int{20, 31, 3}},
		{slices.Concat(heapOf("a", 1, 30), heapOf("b", 1, 30), heapOf("c", 1, 5), heapOf("d", 1, 16), heapOf("e", 1, 2)), []int{30, 30, 21, 2}},
		{heapOf("a", 1, 150), []int{150}},
	} {
		for level := range 2 {
			levels := make([]lots, level+1)
			levels[level] = lots{c.list}
			y, ok := compacts(t, treeOf(t, 200, nil, nil, levels...), level, 0)
			if !ok || !slices.Equal(sizes(y, level+1), c.want) || len(impl.TreeAll(y)) != len(c.list) {
				t.Errorf("%d entries: %v, not %v", len(c.list), sizes(y, level+1), c.want)
			}
		}
	}
	// it is cut behind the squashing
	x := treeOf(t, 500, nil, nil, lots{keysFrom("k", 5, 30), keysFrom("k", 6, 30), slices.Concat(keysFrom("k", 7, 15), []impl.Entry{del("k020", 9), del("k021", 9)})})
	y, _ := compacts(t, x, 0, 0)
	if !slices.Equal(sizes(y, 1), []int{20, 8}) {
		t.Errorf("%v", sizes(y, 1))
	}
}

func TestTreeCompactOfARunThatWouldBeTooLong(t *testing.T) {
	for _, c := range []struct {
		above   lots // on level 0, one behind the other
		beneath []impl.Entry
		want    []int // of level 1, or none, if that is refused
	}{
		{lots{heapOf("k", 101, 149)}, heapOf("k", 1, 1), []int{150}},
		{lots{heapOf("k", 101, 150)}, heapOf("k", 1, 1), nil},
		{lots{heapOf("k", 101, 60), heapOf("k", 201, 60)}, heapOf("k", 1, 30), []int{150}},
		{lots{heapOf("k", 101, 60), heapOf("k", 201, 60)}, heapOf("k", 1, 31), nil},
		{lots{heapOf("k", 101, 60), heapOf("k", 201, 60), heapOf("k", 301, 15), heapOf("k", 401, 15)}, nil, []int{150}},
		{lots{heapOf("k", 101, 60), heapOf("k", 201, 60), heapOf("k", 301, 15), heapOf("k", 401, 16)}, nil, nil},
		// with other keys ahead of it in its run
		{lots{heapOf("k", 101, 131)}, keysFrom("a", 1, 19), []int{150}},
		{lots{heapOf("k", 101, 132), keysFrom("a", 300, 1)}, keysFrom("a", 1, 19), nil},
		{lots{heapOf("k", 101, 132), keysFrom("a", 300, 1)}, keysFrom("a", 1, 20), []int{20, 132}},
		{lots{heapOf("k", 101, 150), keysFrom("a", 300, 1)}, keysFrom("a", 1, 20), []int{20, 150}},
		{lots{heapOf("k", 101, 150), keysFrom("a", 300, 1)}, keysFrom("a", 1, 21), nil},
		// and behind it
		{lots{heapOf("k", 101, 150), keysFrom("z", 300, 1)}, keysFrom("z", 1, 3), []int{150, 3}},
	} {
		x := impl.Tree{Seq: 1000, Levels: make([][]impl.Run, 3)}
		for _, list := range c.above {
			x.Levels[0] = append(x.Levels[0], mustRun(t, list...))
		}
		if len(c.beneath) > 0 {
			x.Levels[1] = append(x.Levels[1], mustRun(t, c.beneath...))
			if !handMeet(c.beneath, handMerge(c.above)) {
				x.Levels[0] = append(x.Levels[0], mustRun(t, put(c.beneath[0].Key, 999, "", 0)))
			}
		}
		was := copyTree(x)
		y, ok := compacts(t, x, 0, 0)
		if ok != (c.want != nil) || ok && !slices.Equal(sizes(y, 1), c.want) {
			t.Errorf("%v, %v, not %v", ok, sizes(y, 1), c.want)
		}
		if !ok {
			notDone(t, was)(y, ok)
		}
	}
	// from level 1 to level 2
	for n := 30; n <= 31; n++ {
		x := treeOf(t, 1000, nil, nil, nil, lots{{add("a", 5, 1)}, heapOf("k", 101, 120)}, lots{heapOf("k", 1, n)})
		if _, ok := compacts(t, x, 1, 1); ok != (n == 30) {
			t.Errorf("%d beneath: %v", n, ok)
		}
		if _, ok := compacts(t, x, 1, 0); !ok {
			t.Error("the other run is not too long")
		}
	}
}

func TestTreeCompactUpToTheRunsOfALevel(t *testing.T) {
	var beneath lots
	for i := range 8 {
		beneath = append(beneath, keysFrom(string(rune('b'+2*i)), 5, 20))
	}
	for level := range 2 {
		build := func(n int, above ...impl.Entry) impl.Tree {
			levels := make([]lots, level+2)
			levels[level], levels[level+1] = lots{above}, beneath[:n]
			return treeOf(t, 100, nil, nil, levels...)
		}
		for _, c := range []struct {
			n     int
			above []impl.Entry
			want  int // how many runs there are then, 0 if that is refused
		}{
			{7, []impl.Entry{put("z", 50, "", 1)}, 8},
			{8, []impl.Entry{put("z", 50, "", 1)}, 0}, // a ninth behind all
			{7, []impl.Entry{put("a", 50, "", 1)}, 8},
			{8, []impl.Entry{put("a", 50, "", 1)}, 0}, // ahead of all
			{8, []impl.Entry{put("c", 50, "", 1)}, 0}, // between two
			{8, []impl.Entry{put("d003", 50, "", 1)}, 8},
			{8, []impl.Entry{put("d003a", 50, "", 1)}, 0}, // one becomes two
			{7, []impl.Entry{put("d003a", 50, "", 1)}, 8},
			{8, []impl.Entry{del("d003", 50), put("d003a", 50, "", 1)}, 8},
			{8, []impl.Entry{put("a", 50, "", 1), put("z", 50, "", 1)}, 0}, // all are taken: 162 entries
			{8, []impl.Entry{del("b000", 50), del("p019", 50)}, 8},         // 158 entries
			{7, keysFrom("q", 50, 20), 8},
			{7, keysFrom("q", 50, 21), 0}, // two more
			{6, keysFrom("q", 50, 40), 8},
			{6, keysFrom("q", 50, 41), 0},
			{0, keysFrom("q", 50, 150), 8},
			{1, keysFrom("q", 50, 150), 0},
		} {
			x := build(c.n, c.above...)
			y, ok := compacts(t, x, level, 0)
			if ok != (c.want > 0) || ok && len(y.Levels[level+1]) != c.want {
				t.Errorf("level %d, %d runs, %d entries: %v, %d", level, c.n, len(c.above), ok, len(y.Levels[level+1]))
			}
			if !ok {
				notDone(t, x)(y, ok)
			}
		}
	}
	// from level 0 as many as there may be
	x := treeOf(t, 100, nil, nil, lots{keysFrom("a", 50, 80), keysFrom("c", 51, 80)})
	if y, ok := compacts(t, x, 0, 0); !ok || len(y.Levels[1]) != 8 {
		t.Errorf("%v", sizes(y, 1))
	}
	x = treeOf(t, 100, nil, nil, lots{keysFrom("a", 50, 80), keysFrom("c", 51, 81)})
	if _, ok := compacts(t, x, 0, 0); ok {
		t.Error("there are nine")
	}
}

// A key that has all its entries in runs of their own, down through all levels.
func TestARunOfOneKey(t *testing.T) {
	done := fine(t)
	x := impl.TreeNew()
	for i := range 4 {
		x = done(impl.TreeWrite(x, timeless(add("k", 0, 10+i))))
		x = done(impl.TreeFlush(x))
	}
	levelsAre(t, x, lots{{add("k", 1, 10)}, {add("k", 2, 11)}, {add("k", 3, 12)}, {add("k", 4, 13)}})
	if x.Levels[0][0].Mask != 1<<4 || impl.TreeCell(x, "k", 4) != has("", 46) || impl.TreeCell(x, "k", 2) != has("", 21) {
		t.Errorf("%v", x)
	}
	x, _ = compacts(t, x, 0, 0)
	levelsAre(t, x, nil, lots{{put("k", 4, "", 46)}})
	x = done(impl.TreeSnap(x))
	x = done(impl.TreeFlush(done(impl.TreeWrite(x, timeless(del("k", 0))))))
	x, _ = compacts(t, x, 0, 0)
	levelsAre(t, x, nil, lots{{del("k", 5), put("k", 4, "", 46)}})
	x, _ = compacts(t, x, 1, 0)
	levelsAre(t, x, nil, nil, lots{{del("k", 5), put("k", 4, "", 46)}})
	x = done(impl.TreeDrop(x, 4))
	x = done(impl.TreeFlush(done(impl.TreeWrite(x, timeless(add("k", 0, 1))))))
	x, _ = compacts(t, x, 0, 0)
	levelsAre(t, x, nil, lots{{add("k", 6, 1)}}, lots{{del("k", 5), put("k", 4, "", 46)}})
	x, _ = compacts(t, x, 1, 0)
	levelsAre(t, x, nil, nil, lots{{put("k", 6, "", 1)}})
}

func TestTreeAllAndTreeCell(t *testing.T) {
	x := treeOf(t, 60, []impl.Entry{add("a", 60, 1), del("c", 55)}, []int{25},
		lots{{add("a", 41, 2), put("b", 40, "b", 7)}, {add("a", 43, 3)}, {add("a", 42+5, 4), add("d", 49, 1)}},
		lots{{del("a", 30), add("b", 31, 3)}, {put("c", 32, "c", 1), add("d", 33, 2)}},
		lots{{put("a", 21, "old", 5), put("aa", 22, "old", 6)}, {add("b", 24, 1), add("b", 23, 2), put("c", 20, "old", 4)}, {put("d", 19, "d", 1)}, {del("e", 18), add("e", 17, 3)}})
	want := []impl.Entry{
		add("a", 60, 1), add("a", 47, 4), add("a", 43, 3), add("a", 41, 2), del("a", 30), put("a", 21, "old", 5), put("aa", 22, "old", 6),
		put("b", 40, "b", 7), add("b", 31, 3), add("b", 24, 1), add("b", 23, 2), del("c", 55), put("c", 32, "c", 1), put("c", 20, "old", 4),
		add("d", 49, 1), add("d", 33, 2), put("d", 19, "d", 1), del("e", 18), add("e", 17, 3),
	}
	if got := impl.TreeAll(x); !slices.Equal(got, want) {
		t.Errorf("%v", got)
	}
	for _, key := range []string{"", "a", "a/", "aa", "ab", "b", "c", "d", "e", "f", "0", "\xff", "A", "zzzzzzzzz"} {
		for _, seq := range append([]int{61, 1000}, wildSeqs...) {
			if got, c := impl.TreeCell(x, key, seq), handCell(want, key, seq); got != c {
				t.Errorf("%q at %d: %v, not %v", key, seq, got, c)
			}
		}
		for seq := range 62 {
			if got, c := impl.TreeCell(x, key, seq), handCell(want, key, seq); got != c {
				t.Errorf("%q at %d: %v, not %v", key, seq, got, c)
			}
		}
	}
}

// wrongTrees is trees that are not ok, each by one thing.
func wrongTrees(t *testing.T) map[string]impl.Tree {
	base := func() impl.Tree {
		return treeOf(t, 60, []impl.Entry{add("a", 60, 1), add("a", 59, 1), del("c", 55)}, []int{0, 25, 60},
			lots{{add("a", 41, 2), put("b", 40, "b", 7)}, {add("a", 43, 3)}},
			lots{{del("a", 30), add("b", 31, 3)}, {put("c", 32, "c", 1), add("d", 33, 2)}},
			lots{{put("a", 21, "old", 5)}, {add("b", 24, 1), put("c", 20, "old", 4)}})
	}
	all := map[string]impl.Tree{"nothing": {}, "empty lists": {Mem: []impl.Entry{}, Levels: [][]impl.Run{}, Snaps: []int{}}}
	but := func(name string, how func(x *impl.Tree)) {
		x := base()
		how(&x)
		all[name] = x
	}
	run := func(list ...impl.Entry) impl.Run { return mustRun(t, list...) }
	for _, seq := range []int{-1, 59, 100001, math.MinInt, math.MaxInt} {
		but(fmt.Sprint("seq ", seq), func(x *impl.Tree) { x.Seq = seq })
	}
	for _, seq := range []int{-1, 100001, math.MinInt, math.MaxInt} {
		all[fmt.Sprint("seq ", seq, " of no entries")] = impl.Tree{Seq: seq, Levels: make([][]impl.Run, 3)}
	}
	but("no levels", func(x *impl.Tree) { x.Levels = nil })
	but("one level", func(x *impl.Tree) { x.Levels = x.Levels[:1] })
	but("two levels", func(x *impl.Tree) { x.Levels = x.Levels[:2] })
	but("four levels", func(x *impl.Tree) { x.Levels = append(x.Levels, nil) })
	but("five levels", func(x *impl.Tree) { x.Levels = append(x.Levels, nil, []impl.Run{run(add("z", 1, 1))}) })
	but("many levels", func(x *impl.Tree) { x.Levels = append(x.Levels, make([][]impl.Run, 1000)...) })
	for i, r := range notRuns() {
		for level := range 3 {
			but(fmt.Sprint("no run ", i, " on level ", level), func(x *impl.Tree) {
				x.Mem = nil
				x.Levels = [][]impl.Run{nil, nil, nil}
				x.Levels[level] = []impl.Run{r}
			})
		}
	}
	but("empty run", func(x *impl.Tree) { x.Levels[2] = append(x.Levels[2], impl.Run{}) })
	but("long run", func(x *impl.Tree) {
		x.Seq = 200
		x.Levels[1] = append(x.Levels[1], handRun(handMerge(lots{heapOf("k", 1, 151)})))
	})
	but("five runs", func(x *impl.Tree) {
		x.Levels[0] = nil
		for i := range 5 {
			x.Levels[0] = append(x.Levels[0], run(add("z", 1+i, 1)))
		}
	})
	for level := 1; level < 3; level++ {
		at := fmt.Sprint(" on level ", level)
		but("nine runs"+at, func(x *impl.Tree) {
			x.Levels[level] = nil
			for i := range 9 {
				x.Levels[level] = append(x.Levels[level], run(add("b/"+string(rune('a'+i)), 22, 1)))
			}
		})
		but("ranges in no order"+at, func(x *impl.Tree) {
			x.Levels[level] = []impl.Run{x.Levels[level][1], x.Levels[level][0]}
		})
		but("ranges that meet at a key"+at, func(x *impl.Tree) {
			x.Levels[level] = []impl.Run{run(put("e", 2, "", 1), put("g", 2, "", 1)), run(put("g", 1, "", 1), put("h", 1, "", 1))}
		})
		but("ranges that meet at a key, the newer behind"+at, func(x *impl.Tree) {
			x.Levels[level] = []impl.Run{run(put("e", 2, "", 1), put("g", 1, "", 1)), run(put("g", 2, "", 1), put("h", 1, "", 1))}
		})
		but("ranges that meet"+at, func(x *impl.Tree) {
			x.Levels[level] = []impl.Run{run(put("e", 2, "", 1), put("h", 2, "", 1)), run(put("g", 2, "", 1), put("i", 1, "", 1))}
		})
		but("a range in another one"+at, func(x *impl.Tree) {
			x.Levels[level] = []impl.Run{run(put("e", 2, "", 1), put("h", 2, "", 1)), run(put("f", 2, "", 1), put("g", 1, "", 1))}
		})
		but("one run twice"+at, func(x *impl.Tree) {
			x.Levels[level] = append(x.Levels[level], x.Levels[level][1])
		})
		but("the third run in no order"+at, func(x *impl.Tree) {
			x.Levels[level] = append(x.Levels[level], run(put("x", 2, "", 1)), run(put("w", 2, "", 1)))
		})
	}
	// a Seq above the tree's, wherever it stands
	but("newer than the tree in Mem", func(x *impl.Tree) { x.Mem[0].Seq = 61 })
	but("newer than the tree on level 0", func(x *impl.Tree) { x.Levels[0][1] = run(add("q", 61, 1)) })
	but("newer than the tree on level 1", func(x *impl.Tree) { x.Levels[1][1] = run(add("q", 61, 1), add("r", 5, 1)) })
	but("newer than the tree on level 2", func(x *impl.Tree) { x.Levels[2][1] = run(add("q", 5, 1), add("r", 61, 1)) })
	// what is newer stands beneath what is older, in each of three ways, and what is of one time does
	for _, seq := range []int{59, 60} {
		but(fmt.Sprint("Mem of 59, a run of level 0 of ", seq), func(x *impl.Tree) { x.Levels[0][1] = run(add("a", seq, 3)) })
		but(fmt.Sprint("Mem of 59, an earlier run of level 0 of ", seq), func(x *impl.Tree) {
			x.Levels[0] = []impl.Run{run(add("a", seq, 3)), run(add("b", 43, 3))}
		})
	}
	for level := 1; level < 3; level++ {
		for _, seq := range []int{55, 56, 60} {
			but(fmt.Sprint("Mem of 55, a run of level ", level, " of ", seq), func(x *impl.Tree) { x.Levels[level] = []impl.Run{run(add("c", seq, 3))} })
		}
		for _, seq := range []int{40, 41, 44, 58} {
			but(fmt.Sprint("level 0 of 40, level ", level, " of ", seq), func(x *impl.Tree) { x.Levels[level] = []impl.Run{run(add("b", seq, 3))} })
		}
	}
	for _, seq := range []int{30, 31, 39} {
		but(fmt.Sprint("level 1 of 30, level 2 of ", seq), func(x *impl.Tree) { x.Levels[2][0] = run(put("a", seq, "", 1)) })
	}
	for _, seq := range []int{33, 34, 50} {
		but(fmt.Sprint("level 1 of 33, level 2 of ", seq), func(x *impl.Tree) { x.Levels[2][1] = run(add("b", 24, 1), add("d", seq, 1)) })
	}
	for _, seq := range []int{41, 40, 35} {
		but(fmt.Sprint("an earlier run of level 0 of 41, a later one of ", seq), func(x *impl.Tree) { x.Levels[0][1] = run(add("a", seq, 3)) })
	}
	but("one of a key's entries on level 0 older than one of an earlier run", func(x *impl.Tree) { x.Levels[0][1] = run(add("a", 43, 3), add("a", 40, 3)) })
	but("the first and the third run of level 0", func(x *impl.Tree) {
		x.Levels[0] = []impl.Run{run(add("a", 43, 3)), run(add("b", 44, 3)), run(add("a", 42, 3))}
	})
	// Mem
	but("Mem not in order of keys", func(x *impl.Tree) { x.Mem[1], x.Mem[2] = x.Mem[2], x.Mem[1] })
	but("Mem with the older one first", func(x *impl.Tree) { x.Mem[0], x.Mem[1] = x.Mem[1], x.Mem[0] })
	but("Mem with one twice", func(x *impl.Tree) { x.Mem = append(x.Mem, x.Mem[2]) })
	but("Mem with two of one time", func(x *impl.Tree) { x.Mem[1].Seq = 60 })
	but("Mem with an entry of nothing", func(x *impl.Tree) { x.Mem = append([]impl.Entry{{}}, x.Mem...) })
	for i, e := range wrongEntries() {
		but(fmt.Sprint("Mem with a wrong entry ", i), func(x *impl.Tree) { x.Mem = []impl.Entry{e} })
		but(fmt.Sprint("Mem with a wrong entry among others ", i), func(x *impl.Tree) { x.Mem = slices.Insert(x.Mem, 2, e) })
	}
	but("Mem of 61", func(x *impl.Tree) {
		x.Mem = nil
		for _, e := range keysFrom("w", 5, 61) {
			x.Mem = append(x.Mem, e)
		}
	})
	// times that are kept
	for _, snaps := range [][]int{
		{25, 0}, {0, 25, 24}, {60, 59}, {25, 25}, {0, 0}, {0, 25, 60, 60}, {-1}, {-1, 5}, {math.MinInt}, {61}, {5, 61}, {math.MaxInt}, {1, 2, 3, 4, 5}, {0, 1, 2, 3, 60}, make([]int, 5), make([]int, 100000),
	} {
		but(fmt.Sprintf("snaps %.40v", snaps), func(x *impl.Tree) { x.Snaps = snaps })
	}
	return all
}

func TestTreeOkOfWrongTrees(t *testing.T) {
	for name, x := range wrongTrees(t) {
		if impl.TreeOk(x) {
			t.Errorf("%s: %.300v", name, x)
		}
		if len(x.Snaps) < 1000 && handTreeOk(x) {
			t.Errorf("by hand, %s: %.300v", name, x)
		}
	}
}

func TestWhatIsNoTreeTellsNothing(t *testing.T) {
	for name, x := range wrongTrees(t) {
		nothing := func(what string, y impl.Tree, ok bool) {
			t.Helper()
			if ok || y.Seq != 0 || len(y.Mem) != 0 || len(y.Levels) != 0 || len(y.Snaps) != 0 {
				t.Errorf("%s of %s: %v, %.300v", what, name, ok, y)
			}
		}
		if all := impl.TreeAll(x); len(all) != 0 {
			t.Errorf("%s: %.300v", name, all)
		}
		for _, key := range []string{"a", "b", "c", "z", "", "\xff"} {
			for _, seq := range append(wildSeqs, 21, 60) {
				if c := impl.TreeCell(x, key, seq); c != (impl.Cell{}) {
					t.Errorf("%s: %q at %d: %v", name, key, seq, c)
				}
			}
		}
		for _, batch := range [][]impl.Entry{manyKeys(1), manyKeys(12), manyKeys(13), nil, {}} {
			y, ok := impl.TreeWrite(x, batch)
			nothing("TreeWrite", y, ok)
		}
		y, ok := impl.TreeFlush(x)
		nothing("TreeFlush", y, ok)
		y, ok = impl.TreeSnap(x)
		nothing("TreeSnap", y, ok)
		for n := -1; n <= 3; n++ {
			for pick := -1; pick <= 3; pick++ {
				y, ok = impl.TreeCompact(x, n, pick)
				nothing("TreeCompact", y, ok)
			}
			y, ok = impl.TreeDrop(x, n)
			nothing("TreeDrop", y, ok)
		}
		for _, seq := range append(wildSeqs, x.Snaps[:min(len(x.Snaps), 9)]...) {
			y, ok = impl.TreeDrop(x, seq)
			nothing("TreeDrop", y, ok)
		}
	}
}

func TestTreeOk(t *testing.T) {
	ok := func(x impl.Tree) {
		t.Helper()
		if !impl.TreeOk(x) || !handTreeOk(x) {
			t.Errorf("%.300v is ok", x)
		}
	}
	none := [][]impl.Run{nil, nil, nil}
	ok(impl.Tree{Levels: none})
	ok(impl.Tree{Levels: [][]impl.Run{{}, nil, {}}, Mem: []impl.Entry{}, Snaps: []int{}})
	ok(impl.Tree{Levels: append(none, []impl.Run{{}})[:3]}) // what is behind its end is not in it
	ok(impl.Tree{Seq: 100000, Levels: none, Snaps: []int{100000}})
	ok(impl.Tree{Seq: 100000, Levels: none, Snaps: []int{0, 1, 2, 100000}})
	ok(impl.Tree{Levels: none, Snaps: []int{0}})
	ok(impl.Tree{Seq: 5, Levels: none, Mem: keysFrom("w", 5, 60)})
	ok(impl.Tree{Seq: 7, Levels: none, Mem: []impl.Entry{add("a", 5, 1)}})                                                  // it may be above all entries
	ok(impl.Tree{Seq: 5, Levels: none, Mem: []impl.Entry{add("a", 5, 1), add("b", 5, 1)}})                                  // two keys of one time
	treeOf(t, 5, nil, nil, lots{keysFrom("a", 5, 150)}, lots{keysFrom("a", 4, 150)}, lots{keysFrom("a", 3, 150)})           // as long as may be
	treeOf(t, 9, []impl.Entry{add("a", 5, 1)}, nil, lots{{add("a", 4, 1)}}, lots{{add("a", 3, 1)}}, lots{{add("a", 2, 1)}}) // just above
	// keys that differ may be newer beneath
	treeOf(t, 9, []impl.Entry{add("a", 1, 1)}, nil, lots{{add("b", 3, 1)}, {add("c", 2, 1)}}, lots{{add("d", 4, 1)}, {add("e", 3, 1)}}, lots{{add("f", 9, 1)}})
	// on level 0 ranges may meet, and stand in any order
	treeOf(t, 9, nil, nil, lots{{add("d", 1, 1), add("f", 1, 1)}, {add("a", 2, 1), add("e", 2, 1)}, {add("d", 3, 1), add("d", 2, 1), add("f", 2, 1)}, {add("a", 3, 1)}})
	var four, eight lots
	for i := range 8 {
		eight = append(eight, []impl.Entry{add("k"+string(rune('a'+i)), 3, 1)})
		if i < 4 {
			four = append(four, []impl.Entry{add("ka", 4+i, 1)})
		}
	}
	treeOf(t, 9, nil, nil, four, eight)
	treeOf(t, 9, nil, nil, four, nil, eight)
}

// Of trees that are ok, but for one thing that is turned in them.
func TestTreeOkOfTreesThatAreTurned(t *testing.T) {
	good, bad := 0, 0
	for seed := range uint32(60) {
		x := seed
		next := func(n int) int {
			x = x*1664525 + 1013904223
			return int(x>>8) % n
		}
		p := newPlay(seed, 12)
		for range 60 {
			p.step(t)
		}
		for range 40 {
			y := copyTree(p.x)
			var all []*impl.Entry
			for i := range y.Mem {
				all = append(all, &y.Mem[i])
			}
			for _, runs := range y.Levels {
				for _, r := range runs {
					for i := range r.Ents {
						all = append(all, &r.Ents[i])
					}
				}
			}
			if len(all) == 0 {
				continue
			}
			e := all[next(len(all))]
			switch next(6) {
			case 0:
				e.Seq += next(5) - 2
			case 1:
				e.Seq = next(y.Seq + 2)
			case 2:
				e.Key = all[next(len(all))].Key
			case 3:
				from, to := next(3), next(3)
				if n := len(y.Levels[from]); n > 0 { // a run moves elsewhere
					r := y.Levels[from][next(n)]
					y.Levels[from] = slices.DeleteFunc(y.Levels[from], func(o impl.Run) bool { return impl.RunSame(o, r) })
					y.Levels[to] = slices.Insert(y.Levels[to], next(len(y.Levels[to])+1), r)
				}
			case 4:
				y.Seq -= next(3)
			case 5:
				y.Levels[next(3)] = nil
			}
			for level, runs := range y.Levels {
				for i, r := range runs {
					y.Levels[level][i] = handRun(r.Ents)
				}
			}
			want := handTreeOk(y)
			if impl.TreeOk(y) != want {
				t.Fatalf("%v: %v", y, !want)
			}
			if want {
				good++
			} else {
				bad++
			}
		}
	}
	if good < 200 || bad < 200 {
		t.Errorf("%d ok, %d not", good, bad)
	}
}

func TestTreeSame(t *testing.T) {
	build := func() impl.Tree {
		return treeOf(t, 60, []impl.Entry{add("a", 60, 1), del("c", 55)}, []int{25, 60},
			lots{{add("a", 41, 2), put("b", 40, "b", 7)}, {add("a", 43, 3)}}, nil, lots{{put("a", 21, "old", 5)}, {add("b", 24, 1), put("c", 20, "old", 4)}})
	}
	x := build()
	if !impl.TreeSame(x, build()) || !impl.TreeSame(x, x) {
		t.Error("they are the same")
	}
	// the nil list and the empty one
	for _, p := range [][2]impl.Tree{
		{{}, {Mem: []impl.Entry{}, Levels: [][]impl.Run{}, Snaps: []int{}}},
		{{Levels: [][]impl.Run{nil, {}, nil}}, impl.TreeNew()},
		{{Levels: [][]impl.Run{{{}}}}, {Levels: [][]impl.Run{{{Ents: []impl.Entry{}}}}}},
		{{Mem: x.Mem[:0], Snaps: x.Snaps[:0], Levels: x.Levels[:0]}, {}},
	} {
		if !impl.TreeSame(p[0], p[1]) || !impl.TreeSame(p[1], p[0]) {
			t.Errorf("%v and %v", p[0], p[1])
		}
	}
	for i, how := range []func(y *impl.Tree){
		func(y *impl.Tree) { y.Seq++ }, func(y *impl.Tree) { y.Seq = -60 },
		func(y *impl.Tree) { y.Mem = nil }, func(y *impl.Tree) { y.Mem = y.Mem[:1] }, func(y *impl.Tree) { y.Mem[1].N = 1 }, func(y *impl.Tree) { y.Mem[0], y.Mem[1] = y.Mem[1], y.Mem[0] }, func(y *impl.Tree) { y.Mem = append(y.Mem, impl.Entry{}) },
		func(y *impl.Tree) { y.Snaps = nil }, func(y *impl.Tree) { y.Snaps = y.Snaps[1:] }, func(y *impl.Tree) { y.Snaps[0] = 24 }, func(y *impl.Tree) { y.Snaps[0], y.Snaps[1] = 60, 25 }, func(y *impl.Tree) { y.Snaps = append(y.Snaps, 0) },
		func(y *impl.Tree) { y.Levels = nil }, func(y *impl.Tree) { y.Levels = y.Levels[:2] }, func(y *impl.Tree) { y.Levels = append(y.Levels, nil) }, func(y *impl.Tree) { y.Levels[1], y.Levels[2] = y.Levels[2], nil },
		func(y *impl.Tree) { y.Levels[0][0], y.Levels[0][1] = y.Levels[0][1], y.Levels[0][0] }, func(y *impl.Tree) { y.Levels[0] = y.Levels[0][:1] }, func(y *impl.Tree) { y.Levels[1] = []impl.Run{{}} },
		func(y *impl.Tree) { y.Levels[2][1].Mask++ }, func(y *impl.Tree) { y.Levels[2][1].Ents = y.Levels[2][1].Ents[:1] }, func(y *impl.Tree) { y.Levels[2][1].Ents[1].Text = "new" }, func(y *impl.Tree) { y.Levels[0][1].Ents[0].Seq++ }, func(y *impl.Tree) { y.Levels[0][0].Ents[0].Key = "aa" },
	} {
		y := build()
		how(&y)
		if impl.TreeSame(x, y) || impl.TreeSame(y, x) || !impl.TreeSame(y, copyTree(y)) {
			t.Errorf("%d: %v", i, y)
		}
	}
	for name, y := range wrongTrees(t) { // of any two, whether they are ok or not
		if !impl.TreeSame(y, copyTree(y)) || impl.TreeSame(y, x) {
			t.Errorf("%s: %.300v", name, y)
		}
	}
}

// play is a tree, what each of its keys has by all that was ever written, and what each time that is kept told of them.
type play struct {
	x    impl.Tree
	keys []string
	now  map[string]impl.Cell
	kept map[int]map[string]impl.Cell
	rnd  uint32
	done map[string]int // how often each thing was done, and was refused
}

func newPlay(seed uint32, keys int) *play {
	p := &play{x: impl.TreeNew(), now: map[string]impl.Cell{}, kept: map[int]map[string]impl.Cell{}, rnd: seed*2654435761 + 1, done: map[string]int{}}
	for i := range keys {
		p.keys = append(p.keys, fmt.Sprintf("k/%03d", i))
	}
	return p
}

func (p *play) next(n int) int {
	p.rnd = p.rnd*1664525 + 1013904223
	return int(p.rnd>>8) % n
}

// batch is entries of keys that stand near each other, so that some ranges meet and others do not.
func (p *play) batch() []impl.Entry {
	var list []impl.Entry
	from := p.next(len(p.keys))
	for range 1 + p.next(12) {
		key := p.keys[(from+p.next(9))%len(p.keys)]
		switch p.next(8) {
		case 0, 1:
			list = append(list, put(key, 0, string(rune('a'+p.next(26))), p.next(2000)-1000))
		case 2, 3:
			list = append(list, del(key, 0))
		case 4:
			list = append(list, add(key, 0, 1000000-p.next(3)*1000000))
		default:
			list = append(list, add(key, 0, p.next(2000)-1000))
		}
	}
	return list
}

// did counts what was done, and says that nothing is told but the tree as it was where it was refused.
func (p *play) did(t *testing.T, what string, was impl.Tree, ok bool) {
	t.Helper()
	if p.done[fmt.Sprint(what, " ", ok)]++; !ok && !impl.TreeSame(p.x, was) {
		t.Fatalf("%s is refused: %v, not %v", what, p.x, was)
	}
}

func (p *play) write(t *testing.T) {
	t.Helper()
	was, batch, ok := p.x, p.batch(), false
	p.x, ok = impl.TreeWrite(was, batch)
	p.did(t, "write", was, ok)
	if ok != (len(was.Mem)+len(batch) <= 60) {
		t.Fatalf("%v of %v: %v", batch, was, ok)
	}
	if ok {
		for i, e := range batch {
			e.Seq = was.Seq + 1 + i
			p.now[e.Key] = handCell([]impl.Entry{put(e.Key, 1, p.now[e.Key].Text, p.now[e.Key].N), e}, e.Key, e.Seq)
		}
	}
}

func (p *play) flush(t *testing.T) {
	t.Helper()
	was, ok := p.x, false
	p.x, ok = impl.TreeFlush(was)
	p.did(t, "flush", was, ok)
	if ok != (len(was.Mem) > 0 && len(was.Levels[0]) < 4) {
		t.Fatalf("%v: %v", was, ok)
	}
	if ok && !slices.Equal(p.x.Levels[0][len(was.Levels[0])].Ents, handSquash(was.Mem, was.Snaps, false)) {
		t.Fatalf("%v: %v", was, p.x)
	}
}

func (p *play) compact(t *testing.T, level int) {
	t.Helper()
	was, ok := p.x, false
	p.x, ok = compacts(t, was, level, p.next(len(was.Levels[level])+2)-1)
	p.did(t, fmt.Sprint("compact ", level), was, ok)
}

func (p *play) snap(t *testing.T) {
	t.Helper()
	was, ok := p.x, false
	p.x, ok = impl.TreeSnap(was)
	p.did(t, "snap", was, ok)
	if ok != (len(p.kept) < 4 && p.kept[was.Seq] == nil) {
		t.Fatalf("%v: %v", was, ok)
	}
	if ok {
		p.kept[was.Seq] = maps.Clone(p.now)
	}
}

func (p *play) drop(t *testing.T) {
	t.Helper()
	seq := p.next(p.x.Seq + 1)
	if n := len(p.x.Snaps); n > 0 && p.next(4) > 0 {
		seq = p.x.Snaps[p.next(n)]
	}
	was, ok := p.x, false
	p.x, ok = impl.TreeDrop(was, seq)
	p.did(t, "drop", was, ok)
	if ok != (p.kept[seq] != nil) {
		t.Fatalf("%d of %v: %v", seq, was, ok)
	}
	delete(p.kept, seq)
}

func (p *play) step(t *testing.T) {
	t.Helper()
	switch n := p.next(100); {
	case n < 45:
		p.write(t)
	case n < 65:
		p.flush(t)
	case n < 77:
		p.compact(t, 0)
	case n < 87:
		p.compact(t, 1)
	case n < 95:
		p.snap(t)
	default:
		p.drop(t)
	}
}

// cellsOf is what each key has at a time, by entries in order.
func cellsOf(list []impl.Entry, seq int) map[string]impl.Cell {
	all := map[string]impl.Cell{}
	for _, e := range slices.Backward(list) {
		if e.Seq <= seq {
			all[e.Key] = handCell([]impl.Entry{put(e.Key, 0, all[e.Key].Text, all[e.Key].N), e}, e.Key, e.Seq)
		}
	}
	return all
}

// asked asks what each key has, at each time that is kept, and at the last.
func (p *play) asked(t *testing.T) {
	t.Helper()
	if !slices.Equal(p.x.Snaps, slices.Sorted(maps.Keys(p.kept))) || !impl.TreeOk(p.x) {
		t.Fatalf("%v", p.x)
	}
	all := impl.TreeAll(p.x)
	if !handInOrder(all) {
		t.Fatalf("%v of %v", all, p.x)
	}
	at := func(seq int, want map[string]impl.Cell) {
		t.Helper()
		cells := cellsOf(all, seq)
		for _, key := range p.keys {
			if cells[key] != want[key] {
				t.Fatalf("%q has %v at %d, not %v, in %v", key, cells[key], seq, want[key], p.x)
			}
		}
		for range 3 {
			key := p.keys[p.next(len(p.keys))]
			if got := impl.TreeCell(p.x, key, seq); got != want[key] {
				t.Fatalf("%q has %v at %d, not %v, in %v", key, got, seq, want[key], p.x)
			}
		}
	}
	at(p.x.Seq, p.now)
	at(math.MaxInt, p.now)
	for seq, want := range p.kept {
		at(seq, want)
	}
}

// Promises 7 and 8, of many trees, behind each thing that is done to them.
func TestWhatAKeyHasDoesNotHangOnWhereItStands(t *testing.T) {
	done := map[string]int{}
	for seed := range uint32(48) {
		p := newPlay(seed, []int{1, 4, 25, 70, 160, 400}[seed%6])
		for range 160 {
			p.step(t)
			p.asked(t)
		}
		for what, n := range p.done {
			done[what] += n
		}
	}
	for _, what := range []string{"write true", "write false", "flush true", "flush false", "compact 0 true", "compact 0 false", "compact 1 true", "compact 1 false", "snap true", "snap false", "drop true", "drop false"} {
		if done[what] < 20 {
			t.Errorf("%s: %d", what, done[what])
		}
	}
}

// Promise 7: what is written alike is told alike, whenever and however it is flushed and compacted.
func TestHoweverItIsCompactedItTellsTheSame(t *testing.T) {
	for seed := range uint32(25) {
		p := newPlay(seed, 30)
		var batches lots
		for range 14 {
			batches = append(batches, p.batch())
		}
		var first map[string]impl.Cell
		for way := range 8 {
			x := impl.TreeNew()
			for i, batch := range batches {
				y, ok := impl.TreeWrite(x, batch)
				if !ok { // there is no room until it is flushed
					x, _ = impl.TreeFlush(x)
					x, _ = compacts(t, x, 0, 0)
					if x, ok = impl.TreeFlush(x); ok {
						x, _ = compacts(t, x, 0, 0)
					}
					y = fine(t)(impl.TreeWrite(x, batch))
				}
				x = y
				if i == 3 || i == 8 {
					x = fine(t)(impl.TreeSnap(x))
				}
				if way&1 == 1 && i%2 == 0 {
					x, _ = impl.TreeFlush(x)
				}
				if way&2 == 2 && i%3 == 0 {
					x, _ = compacts(t, x, 0, 0)
				}
				if way&4 == 4 && i%5 == 0 {
					x, _ = compacts(t, x, 1, 0)
				}
			}
			told := map[string]impl.Cell{}
			for _, key := range p.keys {
				for _, seq := range append(slices.Clone(x.Snaps), x.Seq) {
					told[fmt.Sprint(key, " at ", seq)] = impl.TreeCell(x, key, seq)
				}
			}
			if first == nil {
				first = told
			}
			if !maps.Equal(told, first) {
				t.Fatalf("%v: %v, not %v", x, told, first)
			}
		}
	}
}

// Promise 8, of all ways in which a few things may be done to a key that has something on each level.
func TestWhatIsKeptStays(t *testing.T) {
	starts := []impl.Tree{
		impl.TreeNew(),
		treeOf(t, 9, nil, []int{3}, nil, lots{{del("a", 5)}}, lots{{put("a", 3, "t", 5)}}),
		treeOf(t, 9, []impl.Entry{add("a", 9, 1)}, []int{3, 5}, lots{{put("a", 7, "u", 1)}}, lots{{del("a", 5), add("a", 4, 1)}}, lots{{put("a", 3, "t", 5)}, {put("b", 1, "", 0)}}),
		treeOf(t, 9, nil, []int{0, 4}, lots{{add("a", 7, 2)}, {del("a", 8)}}, nil, lots{{add("a", 5, 1000000), put("a", 4, "t", 1000000)}}),
	}
	steps := []func(x impl.Tree) (impl.Tree, bool){
		func(x impl.Tree) (impl.Tree, bool) { return impl.TreeWrite(x, timeless(del("a", 0))) },
		func(x impl.Tree) (impl.Tree, bool) {
			return impl.TreeWrite(x, timeless(add("a", 0, 7), put("b", 0, "", 1)))
		},
		impl.TreeSnap,
		func(x impl.Tree) (impl.Tree, bool) { return impl.TreeDrop(x, append(x.Snaps, -1)[0]) },
		impl.TreeFlush,
		func(x impl.Tree) (impl.Tree, bool) { return impl.TreeCompact(x, 0, 0) },
		func(x impl.Tree) (impl.Tree, bool) { return impl.TreeCompact(x, 1, 0) },
	}
	var each func(x impl.Tree, last impl.Cell, kept map[int]impl.Cell, left int)
	each = func(x impl.Tree, last impl.Cell, kept map[int]impl.Cell, left int) {
		if got := impl.TreeCell(x, "a", x.Seq); got != last {
			t.Fatalf("%v tells %v, not %v", x, got, last)
		}
		for _, seq := range x.Snaps {
			if got := impl.TreeCell(x, "a", seq); got != kept[seq] {
				t.Fatalf("%v tells %v at %d, not %v", x, got, seq, kept[seq])
			}
		}
		if left == 0 {
			return
		}
		for i, step := range steps {
			y, ok := step(x)
			if !ok {
				continue
			}
			now, times := last, kept
			switch i {
			case 0:
				now = impl.Cell{}
			case 1:
				now = has(last.Text, last.N+7)
			case 2:
				times = maps.Clone(kept)
				times[x.Seq] = last
			}
			each(y, now, times, left-1)
		}
	}
	for _, x := range starts {
		kept := map[int]impl.Cell{}
		for _, seq := range x.Snaps {
			kept[seq] = handCell(impl.TreeAll(x), "a", seq)
		}
		each(x, handCell(impl.TreeAll(x), "a", x.Seq), kept, 6)
	}
}

// span is a piece of memory.
type span struct {
	from, to uintptr
	what     string
}

// spansOf is the memory of all lists and texts of a tree, spare room included.
func spansOf(x impl.Tree) []span {
	var all []span
	some := func(what string, p unsafe.Pointer, size uintptr) {
		if size > 0 {
			all = append(all, span{uintptr(p), uintptr(p) + size, what})
		}
	}
	ents := func(what string, list []impl.Entry) {
		some(what, unsafe.Pointer(unsafe.SliceData(list)), uintptr(cap(list))*unsafe.Sizeof(impl.Entry{}))
		for _, e := range list {
			some(what+", key "+e.Key, unsafe.Pointer(unsafe.StringData(e.Key)), uintptr(len(e.Key)))
			some(what+", text "+e.Text, unsafe.Pointer(unsafe.StringData(e.Text)), uintptr(len(e.Text)))
		}
	}
	ents("Mem", x.Mem)
	some("Snaps", unsafe.Pointer(unsafe.SliceData(x.Snaps)), uintptr(cap(x.Snaps))*unsafe.Sizeof(0))
	some("Levels", unsafe.Pointer(unsafe.SliceData(x.Levels)), uintptr(cap(x.Levels))*unsafe.Sizeof([]impl.Run{}))
	for level, runs := range x.Levels {
		some(fmt.Sprint("level ", level), unsafe.Pointer(unsafe.SliceData(runs)), uintptr(cap(runs))*unsafe.Sizeof(impl.Run{}))
		for i, r := range runs {
			ents(fmt.Sprint("run ", i, " of level ", level), r.Ents)
		}
	}
	return all
}

// roomyTree is a tree with all its lists longer than they are told to be, and all texts in memory of their own; and all that is in that memory, as a text.
func roomyTree(t *testing.T) (impl.Tree, func() string) {
	t.Helper()
	spare := put("spare", 1, "spare", 1)
	ents := func(list []impl.Entry) []impl.Entry {
		var own []impl.Entry
		for _, e := range list {
			e.Key, e.Text = strings.Clone(e.Key), strings.Clone(e.Text)
			own = append(own, e)
		}
		return append(own, spare, spare, spare)[:len(list)]
	}
	x := treeOf(t, 60, []impl.Entry{put("a/key", 60, "newest", 1), add("b/key", 58, 2), del("b/key", 57)}, []int{3, 25, 30},
		lots{{add("a/key", 50, 1), put("c/key", 50, "of 50", 1)}, {add("a/key", 51, 1), del("d/key", 51)}},
		lots{{put("a/key", 40, "of 40", 2)}, {del("c/key", 40), put("cc/key", 40, "of 40", 3)}, {put("x/key", 40, "of 40", 3)}},
		lots{{put("a/key", 30, "of 30", 2)}, {put("c/key", 30, "of 30", 2), put("d/key", 30, "of 30", 3)}, {put("y/key", 30, "of 30", 3)}})
	x.Mem = ents(x.Mem)
	x.Snaps = append(x.Snaps, 77, 78, 79)[:3]
	levels := [][]impl.Run{nil, nil, nil, {{Mask: 7}}, {{Mask: 8}}}
	for level, runs := range x.Levels {
		for _, r := range runs {
			levels[level] = append(levels[level], impl.Run{Ents: ents(r.Ents), Mask: r.Mask})
		}
		levels[level] = append(levels[level], impl.Run{Mask: 5}, impl.Run{Mask: 6})[:len(runs)]
	}
	x.Levels = levels[:3]
	return x, func() string {
		var all strings.Builder
		fmt.Fprint(&all, x.Seq, x.Mem[:cap(x.Mem)], x.Snaps[:cap(x.Snaps)], x.Levels[:cap(x.Levels)])
		for _, runs := range x.Levels {
			fmt.Fprint(&all, runs[:cap(runs)])
			for _, r := range runs {
				fmt.Fprint(&all, r.Ents[:cap(r.Ents)])
			}
		}
		return all.String()
	}
}

// treeCalls is calls that answer a tree, done and refused, by what they are.
func treeCalls(batch []impl.Entry) map[string]func(x impl.Tree) (impl.Tree, bool) {
	return map[string]func(x impl.Tree) (impl.Tree, bool){
		"TreeWrite":                     func(x impl.Tree) (impl.Tree, bool) { return impl.TreeWrite(x, batch) },
		"TreeWrite, refused":            func(x impl.Tree) (impl.Tree, bool) { return impl.TreeWrite(x, nil) },
		"TreeWrite of wrong, refused":   func(x impl.Tree) (impl.Tree, bool) { return impl.TreeWrite(x, batch[:cap(batch)]) },
		"TreeFlush":                     impl.TreeFlush,
		"TreeSnap":                      impl.TreeSnap,
		"TreeDrop":                      func(x impl.Tree) (impl.Tree, bool) { return impl.TreeDrop(x, 25) },
		"TreeDrop of the first":         func(x impl.Tree) (impl.Tree, bool) { return impl.TreeDrop(x, 3) },
		"TreeDrop, refused":             func(x impl.Tree) (impl.Tree, bool) { return impl.TreeDrop(x, 26) },
		"TreeCompact of level 0":        func(x impl.Tree) (impl.Tree, bool) { return impl.TreeCompact(x, 0, 0) },
		"TreeCompact of level 1, first": func(x impl.Tree) (impl.Tree, bool) { return impl.TreeCompact(x, 1, 0) },
		"TreeCompact of level 1":        func(x impl.Tree) (impl.Tree, bool) { return impl.TreeCompact(x, 1, 1) },
		"TreeCompact, refused":          func(x impl.Tree) (impl.Tree, bool) { return impl.TreeCompact(x, 1, 3) },
	}
}

func TestTreesWriteNothingIntoWhatTheyAreGiven(t *testing.T) {
	x, memory := roomyTree(t)
	was := memory()
	batch := append(timeless(put("b/key", 0, "written", 1), add("a/key", 0, 1)), put("spare", 9, "spare", 1), put("spare", 9, "spare", 1))[:2]
	room := slices.Clone(batch[:cap(batch)])
	for name, call := range treeCalls(batch) {
		if _, ok := call(x); ok == strings.HasSuffix(name, "refused") {
			t.Errorf("%s: %v", name, ok)
		}
		if now := memory(); now != was {
			t.Fatalf("%s wrote into its tree: %s, not %s", name, now, was)
		}
		notInto(t, name, batch[:cap(batch)], room)
	}
	impl.TreeOk(x)
	impl.TreeAll(x)
	impl.TreeSame(x, x)
	for _, key := range []string{"a/key", "d/key", "none"} {
		for seq := range 62 {
			impl.TreeCell(x, key, seq)
		}
	}
	if now := memory(); now != was {
		t.Fatalf("asking a tree wrote into it: %s, not %s", now, was)
	}
	// and into trees that are not ok
	x.Seq = 59
	was = memory()
	for name, call := range treeCalls(batch) {
		if _, ok := call(x); ok || memory() != was {
			t.Fatalf("%s wrote into its tree: %s, not %s", name, memory(), was)
		}
	}
}

func TestTreesAreNewMemory(t *testing.T) {
	x, _ := roomyTree(t)
	batch := timeless(put(strings.Clone("b/key"), 0, strings.Clone("written"), 1), add(strings.Clone("a/key"), 0, 1))
	given := slices.Concat(spansOf(x), spansOf(impl.Tree{Mem: batch}))
	apart := func(name string, got []span) {
		t.Helper()
		for i, s := range got {
			for _, o := range slices.Concat(given, got[:i]) {
				if s.from < o.to && o.from < s.to {
					t.Errorf("%s: %s is in the memory of %s", name, s.what, o.what)
				}
			}
		}
	}
	for name, call := range treeCalls(batch) {
		if name == "TreeWrite of wrong, refused" {
			continue // this batch has no room behind its end
		}
		y, ok := call(x)
		if ok == strings.HasSuffix(name, "refused") {
			t.Errorf("%s: %v", name, ok)
		}
		apart(name, spansOf(y))
	}
	apart("TreeAll", spansOf(impl.Tree{Mem: impl.TreeAll(x)}))
	if c := impl.TreeCell(x, "a/key", 60); c != has("newest", 1) || unsafe.StringData(c.Text) == unsafe.StringData(x.Mem[0].Text) {
		t.Errorf("%v", c)
	}
	if c := impl.TreeCell(x, "c/key", 30); c != has("of 30", 2) || unsafe.StringData(c.Text) == unsafe.StringData(x.Levels[2][1].Ents[0].Text) {
		t.Errorf("%v", c)
	}
	apart("TreeNew", slices.Concat(spansOf(impl.TreeNew()), spansOf(impl.TreeNew())))
	// of trees with nothing in them, but with room behind the ends
	bare := impl.Tree{Seq: 5, Mem: x.Mem[:0], Levels: [][]impl.Run{x.Levels[0][:0], x.Levels[1][:0], x.Levels[2][:0]}, Snaps: x.Snaps[:0]}
	for name, call := range treeCalls(batch) {
		y, _ := call(bare)
		apart(name+", of nothing", spansOf(y))
	}
}
