package impl

import (
	"iter"
	"slices"
	"strconv"
)

// Leg is an account, a currency, and how much of it comes to the account.
type Leg struct {
	Acct string
	Cur  int
	N    int
}

// Post is a posting: its number, and legs.
type Post struct {
	Id   int
	Legs []Leg
}

// Bounds.
const (
	AcctMost  = 4
	CurMost   = 3
	LegMost   = 4
	MoneyMost = 1000
	IdMost    = 99
	BalMost   = 2000
)

// AcctOk says whether a text is an account.
func AcctOk(s string) bool {
	if len(s) < 1 || len(s) > AcctMost {
		return false
	}
	for _, r := range s {
		if !isLetter(r) {
			return false
		}
	}
	return true
}

func isLetter(r rune) bool { return r >= 'a' && r <= 'z' }

// LegOk says whether a leg is right.
func LegOk(l Leg) bool {
	return AcctOk(l.Acct) &&
		l.Cur >= 1 && l.Cur <= CurMost &&
		l.N >= -MoneyMost && l.N <= MoneyMost && l.N != 0
}

// PostOk says whether a posting is right.
func PostOk(p Post) bool {
	if p.Id < 0 || p.Id > IdMost || len(p.Legs) < 1 || len(p.Legs) > LegMost {
		return false
	}
	for _, l := range p.Legs {
		if !LegOk(l) {
			return false
		}
	}
	return true
}

// legsOf yields the legs of a currency. A posting that is not ok yields none, so that no sum of it is anything but 0.
func legsOf(p Post, cur int) iter.Seq[Leg] {
	return func(yield func(Leg) bool) {
		if !PostOk(p) {
			return
		}
		for _, l := range p.Legs {
			if l.Cur == cur && !yield(l) {
				return
			}
		}
	}
}

// sumsOf is, by accounts, how much of a currency a posting brings.
func sumsOf(p Post, cur int) map[string]int {
	sums := map[string]int{}
	for l := range legsOf(p, cur) {
		sums[l.Acct] += l.N
	}
	return sums
}

// PostSum is how much of a currency a posting brings in all.
func PostSum(p Post, cur int) int {
	all := 0
	for _, n := range sumsOf(p, cur) {
		all += n
	}
	return all
}

// PostFair says whether a posting takes as much as it brings.
func PostFair(p Post) bool {
	// The sums of a posting that is not ok are 0 too, so they alone do not tell.
	if !PostOk(p) {
		return false
	}
	for cur := 1; cur <= CurMost; cur++ {
		if PostSum(p, cur) != 0 {
			return false
		}
	}
	return true
}

// PostTo is how much of a currency a posting brings to an account.
func PostTo(p Post, acct string, cur int) int { return sumsOf(p, cur)[acct] }

// PostText writes a posting.
func PostText(p Post) string {
	if !PostOk(p) {
		return ""
	}
	text := strconv.AppendInt(nil, int64(p.Id), 10)
	for _, l := range p.Legs {
		text = append(text, ' ')
		text = append(text, l.Acct...)
		text = append(text, ':')
		text = strconv.AppendInt(text, int64(l.Cur), 10)
		text = append(text, ':')
		text = strconv.AppendInt(text, int64(l.N), 10)
	}
	return string(text)
}

// PostRead reads a posting.
func PostRead(text string) (Post, bool) {
	p := scanPost(text)
	// A text that was not scanned to its end, or has a needless zero or the like, is not what is written of p: no rule of its own need refuse it.
	if !PostOk(p) || PostText(p) != text {
		return Post{}, false
	}
	return p, true
}

// Parts of a posting's text, in the order in which they come; behind partN may come another partAcct.
const (
	partId = iota
	partAcct
	partCur
	partN
)

// partEnds has the sign that ends each part.
var partEnds = [4]rune{' ', ':', ':', ' '}

// postScan is a posting as far as its text has been scanned.
type postScan struct {
	post Post
	leg  Leg
	part int
	word []byte
}

// scanPost takes a text apart, up to the first sign that no posting has there. Parts may be beyond their limits, and the last one may be missing.
func scanPost(text string) Post {
	s := postScan{}
signs:
	for _, r := range text {
		switch {
		case r == partEnds[s.part]:
			if !s.endPart() {
				break signs
			}
		case isLetter(r) || r >= '0' && r <= '9' || r == '-':
			s.word = append(s.word, byte(r))
		default:
			break signs
		}
	}
	s.endPart()
	return s.post
}

// endPart puts the word where it belongs; false, if it is no number where one belongs, or there is a leg too many.
func (s *postScan) endPart() bool {
	word := string(s.word)
	s.word = nil
	if s.part == partAcct {
		s.leg.Acct = word
		s.part = partCur
		return true
	}
	n, err := strconv.Atoi(word)
	if err != nil {
		return false
	}
	switch s.part {
	case partId:
		s.post.Id = n
		s.part = partAcct
	case partCur:
		s.leg.Cur = n
		s.part = partN
	case partN:
		s.leg.N = n
		s.post.Legs = append(s.post.Legs, s.leg)
		s.part = partAcct
	}
	return len(s.post.Legs) <= LegMost
}

// PostSame says whether two postings are one.
func PostSame(a Post, b Post) bool { return a.Id == b.Id && slices.Equal(a.Legs, b.Legs) }
