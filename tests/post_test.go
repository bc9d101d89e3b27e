package tests

import (
	"math"
	"regexp"
	"slices"
	"strings"
	"testing"

	"loop.example/comptoir/impl"
)

func leg(acct string, cur int, n int) impl.Leg { return impl.Leg{Acct: acct, Cur: cur, N: n} }

func posting(id int, legs ...impl.Leg) impl.Post { return impl.Post{Id: id, Legs: legs} }

// okPosts are postings that are ok, with their texts, and whether they are fair.
func okPosts() []okPost {
	return []okPost{
		{posting(7, leg("a", 1, 50), leg("cash", 1, -30), leg("b", 1, -20)), "7 a:1:50 cash:1:-30 b:1:-20", true},
		{posting(12, leg("bank", 2, -5), leg("a", 2, 5)), "12 bank:2:-5 a:2:5", true},
		{posting(12, leg("bank", 2, -5), leg("a", 2, 6)), "12 bank:2:-5 a:2:6", false},
		// one leg, which can not be fair
		{posting(0, leg("a", 1, 1)), "0 a:1:1", false},
		{posting(99, leg("zzzz", 3, -1)), "99 zzzz:3:-1", false},
		// the bounds of N
		{posting(0, leg("abcd", 1, 1000), leg("z", 1, -1000)), "0 abcd:1:1000 z:1:-1000", true},
		{posting(99, leg("a", 3, -1000), leg("a", 3, 1000)), "99 a:3:-1000 a:3:1000", true},
		{posting(10, leg("a", 1, 1000), leg("a", 1, 1000), leg("a", 1, 1000), leg("a", 1, 1000)), "10 a:1:1000 a:1:1000 a:1:1000 a:1:1000", false},
		{posting(9, leg("a", 2, -1000), leg("b", 2, -1000), leg("c", 2, -1000), leg("d", 2, -1000)), "9 a:2:-1000 b:2:-1000 c:2:-1000 d:2:-1000", false},
		// two legs of one account
		{posting(1, leg("a", 1, 5), leg("a", 1, 6), leg("b", 1, -11)), "1 a:1:5 a:1:6 b:1:-11", true},
		{posting(1, leg("a", 1, 5), leg("a", 1, 5)), "1 a:1:5 a:1:5", false},
		{posting(1, leg("a", 1, 5), leg("b", 1, -10), leg("a", 1, 5)), "1 a:1:5 b:1:-10 a:1:5", true},
		// one account in two currencies: what is together nothing over both is not fair
		{posting(2, leg("a", 1, 5), leg("a", 2, -5)), "2 a:1:5 a:2:-5", false},
		{posting(2, leg("a", 2, 5), leg("b", 3, -5)), "2 a:2:5 b:3:-5", false},
		{posting(2, leg("a", 1, 5), leg("a", 2, -7), leg("b", 1, -5), leg("b", 2, 7)), "2 a:1:5 a:2:-7 b:1:-5 b:2:7", true},
		{posting(2, leg("a", 1, 5), leg("b", 1, -5), leg("b", 3, 7)), "2 a:1:5 b:1:-5 b:3:7", false},
		{posting(2, leg("a", 3, 100), leg("b", 3, -100)), "2 a:3:100 b:3:-100", true},
	}
}

type okPost struct {
	post impl.Post
	text string
	fair bool
}

// wrongPosts are postings that are not ok; in each of them what comes to "a" in currency 1 would be 5 or -5 by its numbers alone.
func wrongPosts() []impl.Post {
	five := leg("a", 1, 5)
	wrong := []impl.Post{
		posting(-1, five), posting(100, five), posting(math.MinInt, five), posting(math.MaxInt, five),
		posting(-1, five, leg("b", 1, -5)), posting(100, five, leg("b", 1, -5)),
		posting(1, five, five, five, five, leg("a", 1, -15)), posting(1, five, leg("b", 1, -2), leg("b", 1, -1), leg("b", 1, -1), leg("b", 1, -1)),
	}
	for _, l := range wrongLegs() {
		wrong = append(wrong, posting(1, five, l), posting(1, l, five), posting(1, leg("a", 1, -5), leg("b", 1, 5), l))
	}
	return wrong
}

func wrongLegs() []impl.Leg {
	return []impl.Leg{
		{}, leg("", 1, 5), leg("abcde", 1, 5), leg("A", 1, 5), leg("a1", 1, 5), leg("a b", 1, 5), leg("a:", 1, 5), leg("\xff", 1, 5),
		leg("b", 0, 5), leg("b", 4, 5), leg("b", -1, 5), leg("b", math.MinInt, 5), leg("b", math.MaxInt, 5),
		leg("b", 1, 0), leg("b", 1, 1001), leg("b", 1, -1001), leg("b", 1, math.MinInt), leg("b", 1, math.MaxInt),
	}
}

func TestAcctOk(t *testing.T) {
	for _, s := range []string{"a", "z", "m", "ab", "xyz", "abcd", "zzzz", "cash"} {
		if !impl.AcctOk(s) {
			t.Errorf("%q is an account", s)
		}
	}
	wrong := []string{"", "abcde", "aaaaaaaa", "é", "ab\u00e9", "\u0430", "\uff41", "\xff", "a\xff", "\xc3", "a\x00", "a ", " a", "ab\n", strings.Repeat("a", 1<<20)}
	for b := 0; b < 256; b++ {
		if b < 'a' || b > 'z' {
			wrong = append(wrong, string([]byte{byte(b)}), string([]byte{'a', 'b', 'c', byte(b)}), string([]byte{byte(b), 'b'}))
		}
	}
	for _, s := range wrong {
		if impl.AcctOk(s) {
			t.Errorf("%.20q is no account", s)
		}
	}
}

func TestLegOk(t *testing.T) {
	for _, l := range []impl.Leg{leg("a", 1, 1), leg("abcd", 3, -1), leg("a", 2, 1000), leg("z", 1, -1000), leg("a", 3, 999)} {
		if !impl.LegOk(l) {
			t.Errorf("%v is ok", l)
		}
	}
	for _, l := range wrongLegs() {
		if impl.LegOk(l) {
			t.Errorf("%v is not ok", l)
		}
	}
}

func TestPostOk(t *testing.T) {
	for _, c := range okPosts() {
		if !impl.PostOk(c.post) {
			t.Errorf("%v is ok", c.post)
		}
	}
	for _, p := range append(wrongPosts(), impl.Post{}, impl.Post{Legs: []impl.Leg{}}, posting(7)) {
		if impl.PostOk(p) {
			t.Errorf("%v is not ok", p)
		}
	}
	for id := -2; id <= 102; id++ {
		if impl.PostOk(posting(id, leg("a", 1, 1))) != (id >= 0 && id <= 99) {
			t.Errorf("id %d", id)
		}
	}
	for n := 0; n <= 8; n++ {
		if impl.PostOk(impl.Post{Legs: slices.Repeat([]impl.Leg{leg("a", 1, 1)}, n)}) != (n >= 1 && n <= 4) {
			t.Errorf("%d legs", n)
		}
	}
}

func TestPostSumsAreThoseOfTheLegs(t *testing.T) {
	accts := []string{"a", "b", "c", "d", "z", "cash", "bank", "abcd", "zzzz", "none", "", "abcde", "A", "\xff"}
	for _, c := range okPosts() {
		for _, cur := range []int{1, 2, 3, 0, 4, -1, math.MinInt, math.MaxInt} {
			all := 0
			for _, acct := range accts {
				to := 0
				for _, l := range c.post.Legs {
					if l.Acct == acct && l.Cur == cur {
						to += l.N
					}
				}
				if got := impl.PostTo(c.post, acct, cur); got != to {
					t.Errorf("PostTo(%s, %q, %d) is %d, not %d", c.text, acct, cur, got, to)
				}
				all += to
			}
			if got := impl.PostSum(c.post, cur); got != all {
				t.Errorf("PostSum(%s, %d) is %d, not %d", c.text, cur, got, all)
			}
		}
	}
}

func TestPostSumsOfOnePosting(t *testing.T) {
	p := posting(3, leg("a", 1, 700), leg("a", 1, 800), leg("b", 1, -200), leg("a", 2, -9))
	for _, c := range []struct{ got, want int }{
		{impl.PostTo(p, "a", 1), 1500}, {impl.PostTo(p, "b", 1), -200}, {impl.PostTo(p, "a", 2), -9}, {impl.PostTo(p, "a", 3), 0}, {impl.PostTo(p, "b", 2), 0},
		{impl.PostSum(p, 1), 1300}, {impl.PostSum(p, 2), -9}, {impl.PostSum(p, 3), 0},
	} {
		if c.got != c.want {
			t.Errorf("%d, not %d", c.got, c.want)
		}
	}
}

func TestPostFair(t *testing.T) {
	for _, c := range okPosts() {
		if impl.PostFair(c.post) != c.fair {
			t.Errorf("%s: fair is %v", c.text, !c.fair)
		}
	}
}

// Each way to give two or three legs small numbers, accounts and currencies, held against sums by hand.
func TestPostFairOfAllSmallPostings(t *testing.T) {
	var legs []impl.Leg
	for _, acct := range []string{"a", "b"} {
		for cur := 1; cur <= 3; cur++ {
			for _, n := range []int{-2, -1, 1, 2} {
				legs = append(legs, leg(acct, cur, n))
			}
		}
	}
	check := func(p impl.Post) {
		var sums [4]int
		for _, l := range p.Legs {
			sums[l.Cur] += l.N
		}
		if impl.PostFair(p) != (sums == [4]int{}) {
			t.Errorf("%v", p)
		}
		if q, ok := impl.PostRead(impl.PostText(p)); !ok || !impl.PostSame(p, q) {
			t.Errorf("%v is read as %v", p, q)
		}
	}
	for _, a := range legs {
		for _, b := range legs {
			check(posting(5, a, b))
			for _, c := range legs {
				check(posting(5, a, b, c))
			}
		}
	}
}

func TestPostTextAndRead(t *testing.T) {
	for _, c := range okPosts() {
		if got := impl.PostText(c.post); got != c.text {
			t.Errorf("PostText is %q, not %q", got, c.text)
		}
		p, ok := impl.PostRead(c.text)
		if !ok || p.Id != c.post.Id || !slices.Equal(p.Legs, c.post.Legs) {
			t.Errorf("%q is read as %v, %v", c.text, p, ok)
		}
	}
	for id := 0; id <= 99; id++ {
		for n := -1000; n <= 1000; n++ {
			if n == 0 {
				continue
			}
			p := posting(id, leg("ab", 1+id%3, n))
			if q, ok := impl.PostRead(impl.PostText(p)); !ok || q.Id != id || !slices.Equal(q.Legs, p.Legs) {
				t.Fatalf("%v is read as %v, %v", p, q, ok)
			}
		}
	}
}

func TestPostReadRefuses(t *testing.T) {
	five := " a:1:5"
	for _, s := range []string{
		// a part that is missing
		"", " ", "7", "7 ", "a:1:5", " a:1:5", "7 a", "7 a:", "7 a:1", "7 a:1:", "7 :1:5", "7 a::5", "7 ::", "7 a:1:-", "7 1:5", "7a:1:5", "7 a:1:5 b", "7 a:1:5 b:1", "7 a:1:5 b:1:", ":", "-",
		// a space or a sign too many
		" 7 a:1:5", "7  a:1:5", "7 a:1:5 ", "7 a:1:5  b:1:5", "7 a :1:5", "7 a: 1:5", "7 a:1 :5", "7 a:1: 5", "7\ta:1:5", "7 a:1:5\n", "\n7 a:1:5", "7 a:1:5\r", "7 a:1:5:6", "7 a:1:5:", "7: a:1:5", "7 a::1:5",
		"+7 a:1:5", "7 a:+1:5", "7 a:1:+5", "7 a:1:--5", "7 a:1:5-", "7 a:1:-0", "-0 a:1:5", "-1 a:1:5", "7 a:-1:5", "7 -a:1:5", "7 a:1:- 5",
		// needless zeros
		"07 a:1:5", "00 a:1:5", "007 a:1:5", "7 a:01:5", "7 a:1:05", "7 a:1:-05", "7 a:1:00", "7 a:1:0005",
		// beyond a limit
		"100 a:1:5", "999 a:1:5", "7 a:0:5", "7 a:4:5", "7 a:10:5", "7 a:1:0", "7 a:1:1001", "7 a:1:-1001", "7 a:1:10000", "7 abcde:1:5", "7" + strings.Repeat(five, 5), "7" + strings.Repeat(five, 1000),
		// numbers that wrap round to fair ones
		"18446744073709551623 a:1:5", "7 a:18446744073709551617:5", "7 a:1:18446744073709551621", "7 a:1:-18446744073709551611", "4294967303 a:1:5",
		// other ways to write a number
		"7 a:1:0x5", "7 a:1:5e1", "7 a:1:5.0", "7 a:1:1_0", "7 a:1:1,000", "7 a:one:5", "x a:1:5",
		// signs outside a to z, and bytes that are no letters
		"7 A:1:5", "7 a1:1:5", "7 1:1:5", "7 a-b:1:5", "7 `:1:5", "7 {:1:5", "7 \u00e9:1:5", "7 \u0430:1:5", "7 \xff:1:5", "7 a\xff:1:5", "7 a:1:5\xff", "\xff7 a:1:5", "7 a:1:\xff5", "7 a:1:5\x00", "\x007 a:1:5", "7\x00a:1:5", "7\u00a0a:1:5", "7 a\uff1a1:5", "7 a:\u0661:5", "7 a:1:\u0665", "7 a:1:\u22125", "\ufeff7 a:1:5", "7 a:1:5\xc3", "\xc3\x28",
		// long ones
		strings.Repeat("7", 1<<20), "7 " + strings.Repeat("a", 1<<20), "7 a:1:" + strings.Repeat("0", 1<<20) + "5", strings.Repeat(" ", 1<<20), strings.Repeat("\xff", 1<<20),
	} {
		p, ok := impl.PostRead(s)
		if ok || p.Id != 0 || len(p.Legs) != 0 {
			t.Errorf("%.60q is read as %v, %v", s, p, ok)
		}
	}
}

var postForm = regexp.MustCompile(`^(0|[1-9][0-9]?)( [a-z]{1,4}:[1-3]:-?([1-9][0-9]{0,2}|1000)){1,4}$`)

// Each text that is one byte away from a right one is read just if it has the form, and then as what it says.
func TestPostReadOfTextsNearby(t *testing.T) {
	check := func(s string) {
		p, ok := impl.PostRead(s)
		if ok != postForm.MatchString(s) {
			t.Errorf("%q: %v", s, ok)
		}
		if ok && impl.PostText(p) != s || !ok && (p.Id != 0 || len(p.Legs) != 0) {
			t.Errorf("%q is read as %v", s, p)
		}
	}
	for _, s := range []string{"0 a:1:1", "7 a:1:50 cash:1:-30", "99 abcd:3:-1000 z:3:1000", "10 a:1:5 a:2:5 a:3:5 a:1:-100"} {
		for i := 0; i <= len(s); i++ {
			check(s[:i])
			check(s[i:])
			for b := 0; b < 256; b++ {
				check(s[:i] + string([]byte{byte(b)}) + s[i:])
				if i < len(s) {
					check(s[:i] + string([]byte{byte(b)}) + s[i+1:])
				}
			}
			if i < len(s) {
				check(s[:i] + s[i+1:])
			}
		}
	}
}

func TestPostsThatAreNotOkTellNothing(t *testing.T) {
	for _, p := range append(wrongPosts(), impl.Post{}, posting(7)) {
		for _, cur := range []int{-1, 0, 1, 2, 3, 4} {
			if n := impl.PostSum(p, cur); n != 0 {
				t.Errorf("PostSum(%v, %d) is %d", p, cur, n)
			}
			for _, acct := range []string{"a", "b", "", "abcde", "A", "\xff"} {
				if n := impl.PostTo(p, acct, cur); n != 0 {
					t.Errorf("PostTo(%v, %q, %d) is %d", p, acct, cur, n)
				}
			}
		}
		if impl.PostFair(p) {
			t.Errorf("%v is fair", p)
		}
		if s := impl.PostText(p); s != "" {
			t.Errorf("%v is written %q", p, s)
		}
		if !impl.PostSame(p, impl.Post{Id: p.Id, Legs: slices.Clone(p.Legs)}) {
			t.Errorf("%v is not the same as itself", p)
		}
	}
}

func TestPostSame(t *testing.T) {
	all := []impl.Post{
		posting(1, leg("a", 1, 5), leg("b", 1, -5)),
		posting(2, leg("a", 1, 5), leg("b", 1, -5)),
		posting(1, leg("b", 1, -5), leg("a", 1, 5)),
		posting(1, leg("a", 1, 5)),
		posting(1, leg("a", 1, 5), leg("b", 1, -5), leg("c", 1, 1)),
		posting(1, leg("c", 1, 5), leg("b", 1, -5)),
		posting(1, leg("a", 2, 5), leg("b", 1, -5)),
		posting(1, leg("a", 1, 5), leg("b", 1, -6)),
		// these are not ok
		posting(1), posting(2), posting(-1, leg("a", 1, 5)), posting(100, leg("a", 1, 5)),
		posting(1, leg("a", 1, 0)), posting(1, leg("a", 4, 0)), posting(1, leg("A", 1, 0)), posting(1, leg("\xff", 1, 0)), posting(1, leg("\xfe", 1, 0)),
		posting(1, leg("a", 1, 1), leg("a", 1, 1), leg("a", 1, 1), leg("a", 1, 1), leg("a", 1, 1)),
		posting(1, leg("a", 1, 1), leg("a", 1, 1), leg("a", 1, 1), leg("a", 1, 1), leg("a", 1, 2)),
	}
	for i, a := range all {
		for j, b := range all {
			b.Legs = slices.Clone(b.Legs)
			if impl.PostSame(a, b) != (i == j) {
				t.Errorf("%v and %v: %v", a, b, i != j)
			}
		}
	}
	if !impl.PostSame(impl.Post{Id: 3}, impl.Post{Id: 3, Legs: []impl.Leg{}}) {
		t.Error("an empty list and no list are one")
	}
}

func TestPostsAreNotWrittenInto(t *testing.T) {
	room := []impl.Leg{leg("a", 1, 5), leg("b", 1, -5), leg("spare", 9, 9), leg("spare", 8, 8)}
	was := slices.Clone(room)
	p := impl.Post{Id: 4, Legs: room[:2]}
	impl.PostOk(p)
	impl.PostSum(p, 1)
	impl.PostFair(p)
	impl.PostTo(p, "a", 1)
	impl.PostText(p)
	impl.PostSame(p, p)
	if !slices.Equal(room, was) || p.Id != 4 || len(p.Legs) != 2 {
		t.Errorf("%v", room)
	}
}

func TestPostReadGivesNewMemory(t *testing.T) {
	text := "4 a:1:5 b:1:-2 b:1:-3"
	p, _ := impl.PostRead(text)
	q, _ := impl.PostRead(text)
	all := p.Legs[:cap(p.Legs)]
	for i := range all {
		all[i] = leg("no", 9, 9)
	}
	if impl.PostText(q) != text {
		t.Errorf("%v", q)
	}
	if r, ok := impl.PostRead(text); !ok || impl.PostText(r) != text {
		t.Errorf("%v", r)
	}
}
