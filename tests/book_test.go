package tests

import (
	"math"
	"slices"
	"strconv"
	"strings"
	"testing"
	"unsafe"

	"loop.example/comptoir/impl"
)

// read is the postings of these texts.
func read(t *testing.T, texts ...string) []impl.Post {
	t.Helper()
	var all []impl.Post
	for _, s := range texts {
		p, ok := impl.PostRead(s)
		if !ok {
			t.Fatalf("%q can not be read", s)
		}
		all = append(all, p)
	}
	return all
}

// fill is a book of n postings that leave each balance at 0.
func fill(n int) []impl.Post {
	var b []impl.Post
	for id := range n {
		b = append(b, posting(id, leg("x", 1, 1), leg("x", 1, -1)))
	}
	return b
}

func texts(b []impl.Post) string {
	var all []string
	for _, p := range b {
		all = append(all, strconv.Itoa(p.Id)+"="+impl.PostText(p))
	}
	return strings.Join(all, "; ")
}

// must puts postings into a book, each of which it has to take.
func must(t *testing.T, b []impl.Post, all ...string) []impl.Post {
	t.Helper()
	for _, p := range read(t, all...) {
		x, code := impl.BookPost(b, p)
		if code != impl.PostFine || len(x) != len(b)+1 || !impl.PostSame(x[len(b)], p) || texts(x[:len(b)]) != texts(b) {
			t.Fatalf("%s behind %s: %d, %s", impl.PostText(p), texts(b), code, texts(x))
		}
		b = x
	}
	return b
}

// refused is a posting that a book has to refuse, with that code, and to stay as it was.
func refused(t *testing.T, b []impl.Post, p impl.Post, code int) {
	t.Helper()
	x, got := impl.BookPost(b, p)
	if got != code || texts(x) != texts(b) {
		t.Errorf("%v behind %s: %d, not %d, and %s", p, texts(b), got, code, texts(x))
	}
}

func TestBookOfOrdinaryPostings(t *testing.T) {
	b := must(t, nil, "7 zoo:1:50 cash:1:-30 b:1:-20", "3 b:1:20 a:1:-20", "9 a:2:5 cash:2:-5 a:1:1 cash:1:-1", "0 b:3:8 b:3:-8")
	if !impl.BookOk(b) {
		t.Error("it is a book")
	}
	bals := map[string][3]int{"a": {-19, 5, 0}, "b": {0, 0, 0}, "cash": {-31, -5, 0}, "zoo": {50, 0, 0}, "none": {}, "": {}, "abcde": {}, "\xff": {}}
	for acct, want := range bals {
		for cur := 1; cur <= 3; cur++ {
			if n := impl.BookBal(b, acct, cur); n != want[cur-1] {
				t.Errorf("%s has %d of %d, not %d", acct, n, cur, want[cur-1])
			}
		}
		for _, cur := range []int{0, 4, -1, math.MinInt, math.MaxInt} {
			if n := impl.BookBal(b, acct, cur); n != 0 {
				t.Errorf("%s has %d of %d", acct, n, cur)
			}
		}
	}
	lines := map[string][]impl.Line{
		"a":    {{Id: 3, Cur: 1, N: -20}, {Id: 9, Cur: 2, N: 5}, {Id: 9, Cur: 1, N: 1}},
		"b":    {{Id: 7, Cur: 1, N: -20}, {Id: 3, Cur: 1, N: 20}, {Id: 0, Cur: 3, N: 8}, {Id: 0, Cur: 3, N: -8}},
		"cash": {{Id: 7, Cur: 1, N: -30}, {Id: 9, Cur: 2, N: -5}, {Id: 9, Cur: 1, N: -1}},
		"zoo":  {{Id: 7, Cur: 1, N: 50}},
		"none": nil, "": nil, "abcde": nil, "A": nil, "\xff": nil,
	}
	for acct, want := range lines {
		if got := impl.BookLines(b, acct); !slices.Equal(got, want) {
			t.Errorf("lines of %q: %v, not %v", acct, got, want)
		}
	}
	if got := impl.BookAccts(b); !slices.Equal(got, []string{"a", "b", "cash", "zoo"}) {
		t.Errorf("accounts: %q", got)
	}
	for cur, want := range map[int][2]int{1: {50, 50}, 2: {5, 5}, 3: {}, 0: {}, 4: {}, -1: {}, math.MinInt: {}, math.MaxInt: {}} {
		if has, lacks := impl.BookSides(b, cur); has != want[0] || lacks != want[1] {
			t.Errorf("sides of %d: %d and %d, not %v", cur, has, lacks, want)
		}
	}
}

func TestBookAcctsAreInTheOrderOfTheirBytes(t *testing.T) {
	b := must(t, nil, "1 zz:1:1 b:1:-1", "2 z:1:1 aa:1:-1", "3 ab:2:1 a:2:-1", "4 zzzz:3:1 aaaa:3:-1", "5 z:2:1 a:2:-1", "6 ba:1:3 ba:1:-3")
	if got := impl.BookAccts(b); !slices.Equal(got, []string{"a", "aa", "aaaa", "ab", "b", "ba", "z", "zz", "zzzz"}) {
		t.Errorf("%q", got)
	}
}

func TestBookSidesAreOfAllAccounts(t *testing.T) {
	b := must(t, nil, "1 a:1:700 b:1:-300 c:1:-400", "2 d:1:20 b:1:-20", "3 a:2:9 d:2:-9", "4 e:1:6 c:1:-6", "5 e:1:-6 c:1:6")
	for cur, want := range map[int]int{1: 720, 2: 9, 3: 0} {
		if has, lacks := impl.BookSides(b, cur); has != want || lacks != want {
			t.Errorf("sides of %d: %d and %d", cur, has, lacks)
		}
	}
}

func TestBookBalanceAtItsBound(t *testing.T) {
	// Only a is at a bound, so nothing else can be what is over.
	above := must(t, nil, "1 a:1:1000 b:1:-1000", "2 a:1:999 c:1:-999", "3 a:1:1 d:1:-1")
	below := must(t, nil, "1 a:1:-1000 b:1:1000", "2 a:1:-999 c:1:999", "3 a:1:-1 d:1:1")
	for _, c := range []struct {
		book []impl.Post
		sign int
	}{{above, 1}, {below, -1}} {
		if n := impl.BookBal(c.book, "a", 1); n != 2000*c.sign || !impl.BookOk(c.book) {
			t.Errorf("a has %d", n)
		}
		move := func(cur int, n int) impl.Post {
			return posting(9, leg("e", cur, -n*c.sign), leg("a", cur, n*c.sign))
		}
		refused(t, c.book, move(1, 1), impl.PostOver)
		refused(t, c.book, move(1, 1000), impl.PostOver)
		// back from the bound, and in another currency, it may go
		for _, p := range []impl.Post{move(1, -1), move(1, -1000), move(2, 1000), move(3, 1)} {
			must(t, c.book, impl.PostText(p))
		}
		// what is no book by one beyond
		if impl.BookOk(append(slices.Clone(c.book), move(1, 1))) {
			t.Error("2001 is too much")
		}
	}
	once := must(t, nil, "1 a:1:1000 a:1:1000 b:1:-1000 b:1:-1000")
	if impl.BookBal(once, "a", 1) != 2000 || impl.BookBal(once, "b", 1) != -2000 {
		t.Error(texts(once))
	}
	refused(t, must(t, nil, "0 a:1:1 c:1:-1"), read(t, "1 a:1:1000 a:1:1000 b:1:-1000 b:1:-1000")[0], impl.PostOver)
	refused(t, must(t, nil, "0 b:1:-1 c:1:1"), read(t, "1 a:1:1000 a:1:1000 b:1:-1000 b:1:-1000")[0], impl.PostOver)
}

func TestBookOfAnAccountInTwoLegs(t *testing.T) {
	b := must(t, nil, "1 a:1:1000 b:1:-1000", "2 a:1:950 c:1:-950")
	// each leg has room by itself, both together have not
	refused(t, b, read(t, "3 a:1:30 a:1:30 d:1:-60")[0], impl.PostOver)
	refused(t, b, read(t, "3 a:1:30 d:1:-60 a:1:30")[0], impl.PostOver)
	refused(t, b, read(t, "3 d:1:-51 a:1:50 a:1:1")[0], impl.PostOver)
	must(t, b, "3 a:1:25 a:1:25 d:1:-50")
	// one leg has no room by itself, both together have, whichever comes first
	must(t, b, "3 a:1:300 a:1:-250 d:1:-50")
	must(t, b, "3 a:1:-250 a:1:300 d:1:-50")
	refused(t, b, read(t, "3 a:1:300 a:1:-249 d:1:-51")[0], impl.PostOver)
	refused(t, b, read(t, "3 a:1:-249 a:1:300 d:1:-51")[0], impl.PostOver)
	// two currencies of one account have nothing to do with each other
	must(t, b, "3 a:1:50 a:2:1000 d:1:-50 d:2:-1000")
	must(t, b, "3 a:2:1000 a:2:1000 d:2:-1000 d:2:-1000")
	refused(t, b, read(t, "3 a:2:5 a:1:51 d:1:-51 d:2:-5")[0], impl.PostOver)
	refused(t, b, read(t, "3 a:1:51 a:2:-51 d:1:-51 d:2:51")[0], impl.PostOver)
	// the last leg is what is over
	refused(t, b, read(t, "3 d:3:5 e:3:-5 f:1:-51 a:1:51")[0], impl.PostOver)

	low := must(t, nil, "1 a:1:-1000 b:1:1000", "2 a:1:-950 c:1:950")
	refused(t, low, read(t, "3 a:1:-30 a:1:-30 d:1:60")[0], impl.PostOver)
	must(t, low, "3 a:1:-300 a:1:250 d:1:50")
	refused(t, low, read(t, "3 a:1:-300 a:1:249 d:1:51")[0], impl.PostOver)
}

func TestBookOfLegsThatCancelEachOther(t *testing.T) {
	b := must(t, nil, "1 a:1:1000 a:1:1000 b:1:-1000 b:1:-1000", "2 a:1:1000 a:1:-1000", "3 c:2:-7 c:2:7")
	if n := impl.BookBal(b, "a", 1); n != 2000 {
		t.Errorf("a has %d", n)
	}
	if got := impl.BookLines(b, "a"); !slices.Equal(got, []impl.Line{{Id: 1, Cur: 1, N: 1000}, {Id: 1, Cur: 1, N: 1000}, {Id: 2, Cur: 1, N: 1000}, {Id: 2, Cur: 1, N: -1000}}) {
		t.Errorf("%v", got)
	}
	if got := impl.BookAccts(b); !slices.Equal(got, []string{"a", "b", "c"}) {
		t.Errorf("%q", got)
	}
	if has, lacks := impl.BookSides(b, 2); has != 0 || lacks != 0 {
		t.Error(has, lacks)
	}
}

func TestBookTellsTheFirstReason(t *testing.T) {
	begin := read(t, "0 a:1:1000 b:1:-1000", "1 a:1:1000 c:1:-1000")
	full := slices.Clone(begin)
	for _, p := range fill(40)[2:] {
		full = append(full, p)
	}
	if len(full) != 40 || !impl.BookOk(full) {
		t.Fatal("40 postings are a book")
	}
	for _, c := range []struct {
		text       string
		room, none int
	}{
		{"90 d:1:1 e:1:-1", impl.PostFine, impl.PostFull},
		{"90 a:1:1 e:1:-1", impl.PostOver, impl.PostOver},
		{"1 d:1:1 e:1:-1", impl.PostTwice, impl.PostTwice},
		{"1 a:1:1 e:1:-1", impl.PostTwice, impl.PostTwice},
		{"90 d:1:1 e:1:-2", impl.PostForm, impl.PostForm},
		{"90 a:1:1 e:1:-2", impl.PostForm, impl.PostForm},
		{"1 d:1:1", impl.PostForm, impl.PostForm},
		{"1 a:1:1 e:2:-1", impl.PostForm, impl.PostForm},
	} {
		p := read(t, c.text)[0]
		if c.room == impl.PostFine {
			must(t, begin, c.text)
		} else {
			refused(t, begin, p, c.room)
		}
		refused(t, full, p, c.none)
	}
}

func TestBookOfAnIdThatComesTwice(t *testing.T) {
	b := must(t, nil, "0 a:1:5 b:1:-5", "99 a:1:5 b:1:-5", "42 c:1:5 b:1:-5")
	for _, s := range []string{"0 a:1:5 b:1:-5", "99 a:1:5 b:1:-5", "42 c:1:5 b:1:-5", "0 x:3:1 y:3:-1", "99 x:3:1 y:3:-1", "42 x:3:1 y:3:-1"} {
		refused(t, b, read(t, s)[0], impl.PostTwice)
		if impl.BookOk(append(slices.Clone(b), read(t, s)...)) {
			t.Errorf("%s is there twice", s)
		}
	}
	must(t, b, "1 a:1:5 b:1:-5")
	// what was refused is not there: its Id may come
	x, code := impl.BookPost(b, read(t, "5 a:1:5 b:1:-4")[0])
	if code != impl.PostForm {
		t.Error(code)
	}
	must(t, x, "5 a:1:5 b:1:-5")
}

func TestBookOf39And40And41Postings(t *testing.T) {
	for n := 0; n <= 43; n++ {
		b := fill(n)
		if impl.BookOk(b) != (n <= 40) {
			t.Errorf("%d postings", n)
		}
		p := posting(99, leg("x", 2, 4), leg("y", 2, -4))
		switch {
		case n < 40:
			must(t, b, impl.PostText(p))
		case n == 40:
			refused(t, b, p, impl.PostFull)
		default:
			tellsNothing(t, b)
		}
	}
	b := must(t, fill(39), "60 a:1:3 b:1:-3")
	if len(b) != 40 || impl.BookBal(b, "a", 1) != 3 || len(impl.BookLines(b, "x")) != 78 || len(impl.BookAccts(b)) != 3 {
		t.Error(texts(b))
	}
}

// tellsNothing is what each function has to say of what is no book.
func tellsNothing(t *testing.T, b []impl.Post) {
	t.Helper()
	if impl.BookOk(b) {
		t.Errorf("%.200v is no book", b)
	}
	for _, p := range []impl.Post{{}, posting(98, leg("q", 1, 5), leg("r", 1, -5)), posting(98, leg("q", 1, 5)), posting(0, leg("a", 1, 5), leg("b", 1, -5)), posting(98, leg("a", 1, 1000), leg("b", 1, -1000))} {
		if x, code := impl.BookPost(b, p); code != impl.PostForm || len(x) != 0 {
			t.Errorf("%v behind %.200v: %d, %.200v", p, b, code, x)
		}
	}
	for _, acct := range []string{"a", "b", "x", ""} {
		if l := impl.BookLines(b, acct); len(l) != 0 {
			t.Errorf("%.200v has lines %v", b, l)
		}
		for cur := 0; cur <= 4; cur++ {
			if n := impl.BookBal(b, acct, cur); n != 0 {
				t.Errorf("%.200v has %d", b, n)
			}
			if has, lacks := impl.BookSides(b, cur); has != 0 || lacks != 0 {
				t.Errorf("%.200v has sides %d, %d", b, has, lacks)
			}
		}
	}
	if l := impl.BookAccts(b); len(l) != 0 {
		t.Errorf("%.200v has accounts %q", b, l)
	}
	if !impl.BookSame(b, slices.Clone(b)) {
		t.Errorf("%.200v is the same as itself", b)
	}
}

func TestWhatIsNoBookTellsNothing(t *testing.T) {
	tellsNothing(t, []impl.Post{{}})
	tellsNothing(t, slices.Repeat([]impl.Post{posting(1, leg("a", 1, 5), leg("b", 1, -5))}, 2))
	tellsNothing(t, slices.Repeat([]impl.Post{posting(1, leg("a", 1, 5), leg("b", 1, -5))}, 200000))
	tellsNothing(t, read(t, "0 a:1:1000 b:1:-1000", "1 a:1:1000 c:1:-1000", "2 a:1:1 d:1:-1"))
	tellsNothing(t, read(t, "0 a:1:-1000 b:1:1000", "1 a:1:-1000 c:1:1000", "2 a:1:-1 d:1:1"))
	tellsNothing(t, read(t, "0 a:1:5 b:1:-5", "1 a:1:5 b:1:-4"))
	tellsNothing(t, read(t, "0 a:1:5 b:2:-5"))
	wrong := append(wrongPosts(), posting(7), impl.Post{}, posting(50, leg("a", 1, 5)))
	for _, p := range wrong {
		for at := 0; at <= 3; at++ {
			good := read(t, "10 a:1:5 b:1:-5", "11 a:2:5 b:2:-5", "12 x:3:7 y:3:-7")
			tellsNothing(t, slices.Insert(good, at, p))
		}
	}
	// A list is a book by the order in which its postings come.
	up, down, more := "0 a:1:1000 a:1:1000 b:1:-1000 c:1:-1000", "1 a:1:-1000 b:1:1000", "2 a:1:900 c:1:-900"
	if !impl.BookOk(read(t, up, down, more)) || !impl.BookOk(read(t, down, more, up)) {
		t.Error("these are books")
	}
	tellsNothing(t, read(t, up, more, down))
	tellsNothing(t, read(t, more, up, down))
}

func TestBookRefusesPostingsThatAreNotFair(t *testing.T) {
	for _, b := range [][]impl.Post{nil, {}, read(t, "10 a:1:5 b:1:-5"), fill(39), fill(40)} {
		for _, p := range append(wrongPosts(), impl.Post{}, posting(7)) {
			refused(t, b, p, impl.PostForm)
		}
		for _, c := range okPosts() {
			if !c.fair {
				refused(t, b, c.post, impl.PostForm)
			}
		}
	}
}

func TestBookOfNoPostings(t *testing.T) {
	for _, b := range [][]impl.Post{nil, {}, fill(3)[:0]} {
		if !impl.BookOk(b) || len(impl.BookAccts(b)) != 0 || len(impl.BookLines(b, "a")) != 0 || impl.BookBal(b, "a", 1) != 0 {
			t.Error("a book without postings is ok, and has nothing")
		}
		if has, lacks := impl.BookSides(b, 1); has != 0 || lacks != 0 {
			t.Error(has, lacks)
		}
		must(t, b, "0 a:1:5 b:1:-5")
		if !impl.BookSame(b, nil) || !impl.BookSame(nil, b) || !impl.BookSame(b, []impl.Post{}) || impl.BookSame(b, fill(1)) || impl.BookSame(fill(1), b) {
			t.Error("the empty list and the nil list are the same")
		}
	}
}

func TestBookSame(t *testing.T) {
	all := [][]impl.Post{
		nil,
		read(t, "1 a:1:5 b:1:-5"), read(t, "2 a:1:5 b:1:-5"), read(t, "1 b:1:-5 a:1:5"), read(t, "1 a:1:5 b:1:-6"), read(t, "1 a:1:5 c:1:-5"), read(t, "1 a:1:5 b:2:-5"),
		read(t, "1 a:1:5 b:1:-5", "2 a:1:5 b:1:-5"), read(t, "2 a:1:5 b:1:-5", "1 a:1:5 b:1:-5"), read(t, "1 a:1:5 b:1:-5", "1 a:1:5 b:1:-5"), read(t, "1 a:1:5 b:1:-5", "2 a:1:5 b:1:-4"),
		{{}}, {{}, {}}, {posting(-1)}, {posting(1, leg("\xff", 9, 0))}, {posting(1, leg("\xfe", 9, 0))}, fill(40), fill(41), fill(99), fill(100)[1:],
	}
	for i, a := range all {
		for j, b := range all {
			var c []impl.Post
			for _, p := range b {
				c = append(c, impl.Post{Id: p.Id, Legs: slices.Clone(p.Legs)})
			}
			if impl.BookSame(a, c) != (i == j) {
				t.Errorf("%v and %v: %v", a, c, i != j)
			}
		}
	}
	if !impl.BookSame([]impl.Post{{Id: 1}}, []impl.Post{{Id: 1, Legs: []impl.Leg{}}}) {
		t.Error("the empty list and the nil list are the same")
	}
}

// handBook is a book that is kept by hand, in other ways than the program's.
type handBook struct{ legs [][]impl.Leg }

// code is how posting ends, behind what is there already; legs are kept by Ids.
func (h *handBook) code(p impl.Post) int {
	if !impl.PostFair(p) {
		return impl.PostForm
	}
	if h.legs[p.Id] != nil {
		return impl.PostTwice
	}
	for _, l := range p.Legs {
		n := h.bal(l.Acct, l.Cur)
		for _, m := range p.Legs {
			if m.Acct == l.Acct && m.Cur == l.Cur {
				n += m.N
			}
		}
		if n > 2000 || n < -2000 {
			return impl.PostOver
		}
	}
	there := 0
	for _, legs := range h.legs {
		if legs != nil {
			there++
		}
	}
	if there >= 40 {
		return impl.PostFull
	}
	return impl.PostFine
}

func (h *handBook) bal(acct string, cur int) int {
	n := 0
	for _, legs := range h.legs {
		for _, l := range legs {
			if l.Acct == acct && l.Cur == cur {
				n += l.N
			}
		}
	}
	return n
}

// nextPost is a posting that hangs on a number; most of them are fair, and many bring a balance near its bound.
func nextPost(x *uint32) impl.Post {
	next := func(n int) int {
		*x = *x*1664525 + 1013904223
		return int(*x>>8) % n
	}
	accts := []string{"a", "b", "c", "cash", "zz"}
	amounts := []int{1000, 700, 300, 1, 999, 250}
	p := impl.Post{Id: next(60)}
	for len(p.Legs) < 4 && (len(p.Legs) == 0 || next(3) > 0) {
		cur, n := 1+next(8)/6, amounts[next(len(amounts))]
		if next(2) == 0 {
			n = -n
		}
		p.Legs = append(p.Legs, leg(accts[next(5)], cur, n), leg(accts[next(5)], cur, -n))
	}
	if next(15) == 0 {
		p.Legs[0].N--
	}
	return p
}

// Promise 2, of many books that are put together posting by posting.
func TestNothingComesFromNowhere(t *testing.T) {
	var codes [5]int
	for seed := range uint32(150) {
		x := seed
		var b []impl.Post
		h := handBook{make([][]impl.Leg, 100)}
		for range 110 {
			p := nextPost(&x)
			want := h.code(p)
			all, code := impl.BookPost(b, p)
			if code != want || (code == impl.PostFine) != (len(all) == len(b)+1) {
				t.Fatalf("%v behind %s: %d, not %d", p, texts(b), code, want)
			}
			codes[code]++
			if code == impl.PostFine {
				h.legs[p.Id] = p.Legs
			}
			b = all
		}
		balanced(t, b, &h)
	}
	for code, n := range codes {
		if n == 0 {
			t.Errorf("code %d never came", code)
		}
	}
}

func balanced(t *testing.T, b []impl.Post, h *handBook) {
	t.Helper()
	for i := range b {
		if !impl.BookOk(b[:i+1]) {
			t.Errorf("the first %d of %s are a book", i+1, texts(b))
		}
	}
	var ids []int
	for _, p := range b {
		if slices.Contains(ids, p.Id) {
			t.Errorf("%d is there twice: %s", p.Id, texts(b))
		}
		ids = append(ids, p.Id)
	}
	for cur := 1; cur <= 3; cur++ {
		all, has := 0, 0
		for _, acct := range impl.BookAccts(b) {
			n := impl.BookBal(b, acct, cur)
			all += n
			has += max(n, 0)
			brought := 0
			for _, l := range impl.BookLines(b, acct) {
				if l.Cur == cur {
					brought += l.N
				}
			}
			if n != brought || n != h.bal(acct, cur) {
				t.Errorf("%s has %d of %d, its lines bring %d, by hand it is %d", acct, n, cur, brought, h.bal(acct, cur))
			}
		}
		if x, y := impl.BookSides(b, cur); all != 0 || x != has || y != has {
			t.Errorf("%d of %d from nowhere, sides %d and %d, not %d", all, cur, x, y, has)
		}
	}
}

// spareBook is a book and a posting, each list of which has room behind its end in which something stands.
func spareBook() ([]impl.Post, impl.Post, [][]impl.Leg) {
	var rooms [][]impl.Leg
	legs := func(n int) []impl.Leg {
		room := []impl.Leg{leg("cash", 1, n), leg("b", 1, -n), leg("spare", 9, 9), leg("spare", 9, 9)}
		rooms = append(rooms, room)
		return room[:2]
	}
	b := []impl.Post{{Id: 1, Legs: legs(5)}, {Id: 2, Legs: legs(6)}, posting(77, leg("no", 9, 9)), posting(78, leg("no", 9, 9))}
	return b[:2], impl.Post{Id: 3, Legs: legs(7)}, rooms
}

func TestBooksAreNotWrittenInto(t *testing.T) {
	b, p, rooms := spareBook()
	for _, q := range []impl.Post{p, posting(1, leg("a", 1, 5), leg("b", 1, -5)), {}} {
		impl.BookPost(b, q)
	}
	impl.BookOk(b)
	impl.BookBal(b, "cash", 1)
	impl.BookLines(b, "cash")
	impl.BookAccts(b)
	impl.BookSides(b, 1)
	impl.BookSame(b, b)
	asNew(t, b, p, rooms)
}

func asNew(t *testing.T, b []impl.Post, p impl.Post, rooms [][]impl.Leg) {
	t.Helper()
	want, wantPost, wantRooms := spareBook()
	if !slices.EqualFunc(b[:4], want[:4], impl.PostSame) || !impl.PostSame(p, wantPost) || !slices.EqualFunc(rooms, wantRooms, slices.Equal) {
		t.Errorf("%v, %v, %v", b[:4], p, rooms)
	}
}

// spoil writes into all memory of a list of postings, each with a mark of its own, and sees that none is in two of them.
func spoil(t *testing.T, b []impl.Post) {
	t.Helper()
	for i, p := range b {
		all := p.Legs[:cap(p.Legs)]
		for k := range all {
			all[k] = leg("spoil", i, k)
		}
	}
	for i, p := range b {
		for k, l := range p.Legs[:cap(p.Legs)] {
			if l != leg("spoil", i, k) {
				t.Errorf("the legs of posting %d are another's too", i)
			}
		}
	}
	all := b[:cap(b)]
	for i := range all {
		all[i] = posting(-5)
	}
}

func TestBookPostGivesNewMemory(t *testing.T) {
	for _, id := range []int{3, 1, -1} {
		b, p, rooms := spareBook()
		p.Id = id
		x, code := impl.BookPost(b, p)
		if (code == impl.PostFine) != (id == 3) {
			t.Fatal(code)
		}
		for i, q := range x {
			old := append(slices.Clone(b), p)[i]
			for k := range q.Legs {
				if unsafe.StringData(q.Legs[k].Acct) == unsafe.StringData(old.Legs[k].Acct) {
					t.Error("an account is in the memory of an argument")
				}
			}
		}
		spoil(t, x)
		p.Id = 3
		asNew(t, b, p, rooms)
	}
	// and the other way round: what is later done to the arguments is not seen in the answer
	b, p, _ := spareBook()
	x, _ := impl.BookPost(b, p)
	was := texts(x)
	spoil(t, append(b, p))
	spoil(t, b)
	if texts(x) != was || was != "1=1 cash:1:5 b:1:-5; 2=2 cash:1:6 b:1:-6; 3=3 cash:1:7 b:1:-7" {
		t.Errorf("%s was %s", texts(x), was)
	}
	// two books that grow from one have nothing to do with each other
	y, _ := impl.BookPost(x, posting(4, leg("a", 1, 1), leg("b", 1, -1)))
	z, _ := impl.BookPost(x, posting(5, leg("c", 1, 1), leg("b", 1, -1)))
	was = texts(z)
	spoil(t, y)
	if texts(z) != was {
		t.Errorf("%s was %s", texts(z), was)
	}
}

func TestBookListsAreNewMemory(t *testing.T) {
	b, p, rooms := spareBook()
	accts := impl.BookAccts(b)
	for _, q := range b {
		for _, l := range q.Legs {
			for _, acct := range accts {
				if unsafe.StringData(acct) == unsafe.StringData(l.Acct) {
					t.Error("an account is in the memory of an argument")
				}
			}
		}
	}
	accts = accts[:cap(accts)]
	for i := range accts {
		accts[i] = "no"
	}
	lines := impl.BookLines(b, "cash")
	lines = lines[:cap(lines)]
	for i := range lines {
		lines[i] = impl.Line{Id: 9}
	}
	asNew(t, b, p, rooms)
	if !slices.Equal(impl.BookAccts(b), []string{"b", "cash"}) || !slices.Equal(impl.BookLines(b, "cash"), []impl.Line{{Id: 1, Cur: 1, N: 5}, {Id: 2, Cur: 1, N: 6}}) {
		t.Error(impl.BookAccts(b), impl.BookLines(b, "cash"))
	}
}

// What a call answers does not hang on the order in which a map is gone through.
func TestBookAnswersAlwaysTheSame(t *testing.T) {
	b := must(t, nil, "1 a:1:700 b:1:-300 c:1:-400", "2 d:1:20 e:1:-20", "3 a:2:9 f:2:-9", "4 g:1:6 h:1:-6")
	want := impl.BookAccts(b)
	for range 200 {
		if got := impl.BookAccts(b); !slices.Equal(got, want) {
			t.Fatalf("%q", got)
		}
		if has, lacks := impl.BookSides(b, 1); has != 726 || lacks != 726 {
			t.Fatal(has, lacks)
		}
	}
}
