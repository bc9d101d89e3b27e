package tests

import (
	"fmt"
	"regexp"
	"slices"
	"strconv"
	"strings"
	"testing"

	"loop.example/comptoir/impl"
)

// handForms is what lines look like, each with one space between its words; what is in brackets comes to handLine.
var handForms = regexp.MustCompile(strings.ReplaceAll(`^(?:(post) ((?:0|[1-9][0-9]?)(?: [a-z]{1,4}:[1-3]:-?(?:[1-9][0-9]{0,2}|1000)){1,4})|(sync|flush|open|accts|size)|(compact) NUM NUM|(fall|break|sides) NUM|(bal) ([^ ]+) NUM|(lines) ([^ ]+))$`, "NUM", `(0|-?[1-9][0-9]{0,16})`))

// handDesk is a desk that is kept by hand, in other ways than the program's.
type handDesk struct {
	s    impl.Store
	book []impl.Post
}

// handWords is a line with one space between its words, and none ahead and behind.
func handWords(line string) string {
	for strings.Contains(line, "  ") {
		line = strings.ReplaceAll(line, "  ", " ")
	}
	return strings.TrimPrefix(strings.TrimSuffix(line, " "), " ")
}

// acts is the word of how something ended.
func (d *handDesk) acts(kind int, p impl.Post, n ...int) string {
	n = append(n, 0, 0)
	s, code := handLedDo(d.s, impl.Act{Kind: kind, Post: p, A: n[0], B: n[1]})
	d.s = s
	d.book, _ = handLedBook(s)
	return strings.Fields("fine form twice over full down room")[code] + "\n"
}

// line is what a line with words answers.
func (d *handDesk) line(line string) string {
	var parts []string
	var n []int
	for _, part := range handForms.FindStringSubmatch(line) {
		if part != "" {
			parts = append(parts, part)
		}
	}
	if len(parts) == 0 {
		return "what\n"
	}
	for _, part := range parts[2:] {
		if number, err := strconv.Atoi(part); err == nil {
			n = append(n, number)
		}
	}
	switch word := parts[1]; word {
	case "post":
		p, _ := impl.PostRead(parts[2])
		return d.acts(1, p)
	case "sync", "flush", "compact", "fall", "break", "open":
		kinds := map[string]int{"sync": 2, "flush": 3, "compact": 4, "fall": 5, "break": 6, "open": 7}
		return d.acts(kinds[word], impl.Post{}, n...)
	case "size":
		all := fmt.Sprint(d.s.Tree.Seq, len(d.s.Tree.Mem))
		for level := range 3 {
			all += fmt.Sprint(" ", len(d.s.Disk.Levels[level]))
		}
		return all + fmt.Sprintf(" %d %d\n", len(d.s.Disk.Log), d.s.Disk.Safe)
	}
	return d.asked(parts, n)
}

// asked is what a line answers that asks of the book.
func (d *handDesk) asked(parts []string, n []int) string {
	h, _ := handBookOf(d.book)
	var accts []string
	lines := ""
	for _, p := range d.book {
		for _, l := range p.Legs {
			if accts = append(accts, l.Acct); parts[1] == "lines" && l.Acct == parts[2] {
				lines += fmt.Sprintf("%d %d %d\n", p.Id, l.Cur, l.N)
			}
		}
	}
	slices.Sort(accts)
	accts = slices.Compact(accts)
	switch parts[1] {
	case "bal":
		return fmt.Sprintln(h.bal(parts[2], n[len(n)-1]))
	case "lines":
		return lines + "end\n"
	case "accts":
		return strings.Join(append(accts, "end"), "\n") + "\n"
	}
	has, lacks := 0, 0
	for _, acct := range accts {
		has += max(0, h.bal(acct, n[0]))
		lacks -= min(0, h.bal(acct, n[0]))
	}
	return fmt.Sprintln(has, lacks)
}

// handScript is what each line of a script answers; those without words answer the empty text.
func handScript(text string) []string {
	if len(text) > 20000 {
		return []string{"long\n"}
	}
	d := handDesk{s: impl.StoreNew()}
	var all []string
	size := 0
	for i, line := range strings.Split(text, "\n") {
		words, answer := handWords(line), ""
		switch {
		case words == "":
		case i >= 200 || size > 20000:
			return append(all, "full\n")
		default:
			answer = d.line(words)
		}
		all = append(all, answer)
		size += len(answer)
	}
	return all
}

// ran is what a script answers, line by line, held against what is worked out by hand.
func ran(t *testing.T, text string) []string {
	t.Helper()
	want := handScript(text)
	if got := impl.DeskRun(text); got != strings.Join(want, "") {
		t.Fatalf("%.3000q answers %.3000q, not %.3000q", text, got, want)
	}
	return want
}

// answers runs a script, of which each line stands ahead of its answer, whole and cut behind each line, with a newline there and with none.
func answers(t *testing.T, pairs ...string) {
	t.Helper()
	script, want := "", ""
	for i := 0; i < len(pairs); i += 2 {
		script += pairs[i]
		want += pairs[i+1]
		if pairs[i+1] != "" {
			want += "\n"
		}
		if got := impl.DeskRun(script); got != want {
			t.Fatalf("%.3000q answers %.3000q, not %.3000q", script, got, want)
		}
		script += "\n"
		if got := impl.DeskRun(script); got != want {
			t.Fatalf("%.3000q answers %.3000q, not %.3000q", script, got, want)
		}
	}
	ran(t, script)
}

// saying is pairs for answers: all these lines answer the same.
func saying(answer string, lines ...string) []string {
	var pairs []string
	for _, line := range lines {
		pairs = append(pairs, line, answer)
	}
	return pairs
}

// deskExample is the script of the document, with all its answers.
var deskExample = []string{
	"post 1 a:1:900 b:1:-900", "fine",
	"sync", "fine",
	"post 2 a:1:300 cash:1:-300", "fine",
	"size", "10 10 0 0 0 191 92",
	"fall 40", "fine",
	"open", "fine",
	"bal a 1", "900",
	"post 2 a:1:300 cash:1:-300", "fine",
	"flush", "fine",
	"post 3 a:1:900 b:1:-900", "over",
	"post 4 cash:2:5 a:2:-5", "fine",
	"compact 0 0", "fine",
	"size", "15 5 0 1 0 95 0",
	"break 0", "fine",
	"open", "fine",
	"accts", "a\nb\ncash\nend",
	"lines a", "1 1 900\n2 1 300\n4 2 -5\nend",
	"sides 1", "1200 1200",
	"size", "15 0 1 1 0 0 0",
}

// scriptOf is the script of pairs, without their answers.
func scriptOf(pairs []string) string {
	var lines []string
	for i := 0; i < len(pairs); i += 2 {
		lines = append(lines, pairs[i])
	}
	return strings.Join(lines, "\n")
}

func TestDeskOfTheDocument(t *testing.T) {
	answers(t, deskExample...)
}

func TestDeskOfNothing(t *testing.T) {
	for _, text := range []string{"", "\n", " ", "\n\n\n", "   \n  \n ", strings.Repeat(" ", 20000), strings.Repeat("\n", 20000), strings.Repeat(" \n", 10000)} {
		if got := impl.DeskRun(text); got != "" {
			t.Errorf("%.50q: %q", text, got)
		}
	}
	answers(t, "size", "0 0 0 0 0 0 0", "accts", "end", "lines a", "end", "bal a 1", "0", "sides 1", "0 0", "sync", "fine", "flush", "room", "compact 0 0", "room", "open", "fine", "size", "0 0 0 0 0 0 0")
}

// Every word of how a posting ends; the place of the reasons is that of the book.
func TestDeskPostEndsInEachWay(t *testing.T) {
	answers(t,
		"post 1 a:1:1000 b:1:-1000", "fine",
		"post 1 a:1:1000 b:1:-1000", "twice",
		"post 1 a:1:1000 b:1:-999", "form",
		"post 2 a:1:5", "form",
		"post 2 a:1:5 b:2:-5", "form",
		"post 2 a:1:1000 b:1:-1000", "fine",
		"post 3 a:1:1 b:1:-1", "over",
		"post 3 a:1:-1 b:1:1", "fine",
		"post 1 a:1:1000 c:1:-1000", "twice",
		"bal a 1", "1999", "bal b 1", "-1999",
		"size", "15 15 0 0 0 282 0",
		"fall 1000", "fine",
		"post 4 a:1:1 b:1:-1", "down",
		"post 1 a:1:1 b:1:-1", "down",
		"post 4 a:1:1 b:1:-2", "down",
		"post 4 a:1:1 b:1:0", "what",
		"open", "fine",
		"bal a 1", "1999",
		"post 0 a:1:1 b:1:-1", "fine",
		"post 99 a:1:1 b:1:-1", "over",
		"lines b", "1 1 -1000\n2 1 -1000\n3 1 1\n0 1 -1\nend",
	)
}

// longScript is pairs with as many postings as a book takes, flushed and compacted on the way.
func longScript() []string {
	var pairs []string
	for id := range 40 {
		pairs = append(pairs, fmt.Sprintf("post %d a:1:100 a:1:-100 b:2:%d c:2:-%d", 2*id, id+1, id+1), "fine")
		if id%8 == 7 {
			pairs = append(pairs, "flush", "fine")
		}
		if id%16 == 15 {
			pairs = append(pairs, "compact 0 0", "fine")
		}
	}
	return pairs
}

func TestDeskOf40PostingsAndOneMore(t *testing.T) {
	answers(t, append(longScript(),
		"post 1 a:1:1 b:1:-1", "full",
		"post 1 a:1:1 b:1:-2", "form",
		"post 2 a:1:1 b:1:-1", "twice",
		"post 1 a:1:1000 a:1:1000 a:1:1 b:1:-1000", "form",
		"post 1 b:2:1000 b:2:1000 c:2:-1000 c:2:-1000", "over",
		"bal a 1", "0", "bal b 2", "820", "bal c 2", "-820",
		"sides 1", "0 0", "sides 2", "820 820", "sides 3", "0 0",
		"accts", "a\nb\nc\nend",
		"fall 0", "fine",
		"post 1 a:1:1 b:1:-1", "down",
		"open", "fine",
		"post 1 a:1:1 b:1:-1", "full",
	)...)
}

// A posting, a flush and a compaction for which there is no room.
func TestDeskWithoutRoom(t *testing.T) {
	var pairs []string
	// 12 postings of 5 entries fill what is in no run
	for id := range 12 {
		pairs = append(pairs, fmt.Sprintf("post %d a:1:1 b:1:-1", id), "fine")
	}
	pairs = append(pairs, "bal a 1", "12", "post 12 a:1:1 b:1:-1", "room", "post 12 a:1:1 b:1:1", "form", "post 11 a:1:1 b:1:-1", "twice", "post 12 a:1:1000 a:1:1000 b:1:-1000 b:1:-1000", "over", "bal a 1", "12", "size", "60 60 0 0 0 1063 0")
	pairs = append(pairs, "flush", "fine", "flush", "room", "post 12 a:1:1 b:1:-1", "fine", "size", "65 5 1 0 0 91 0")
	pairs = append(pairs, "flush", "fine", "post 13 a:1:1 b:1:-1", "fine", "flush", "fine", "post 14 a:1:1 b:1:-1", "fine", "flush", "fine", "post 15 a:1:1 b:1:-1", "fine", "size", "80 5 4 0 0 91 0")
	// 4 runs are on the first level, which takes no more
	pairs = append(pairs, "flush", "room", "size", "80 5 4 0 0 91 0", "break 0", "fine", "size", "0 0 4 0 0 0 0", "open", "fine", "bal a 1", "15", "post 15 a:1:1 b:1:-1", "fine")
	pairs = append(pairs, saying("room", "compact 1 0", "compact 2 0", "compact -1 0", "compact 3 0", "compact 1 -1", "compact 99999999999999999 0", "compact 1 99999999999999999")...)
	pairs = append(pairs, "compact 0 7", "fine", "size", "80 5 0 2 0 91 0", "compact 0 0", "room", "compact 1 2", "room", "compact 1 -1", "room", "flush", "fine", "compact 0 -7", "fine", "size", "80 0 0 2 0 0 0")
	pairs = append(pairs, "compact 1 0", "fine", "size", "80 0 0 1 1 0 0", "compact 1 1", "room", "compact 1 0", "fine", "size", "80 0 0 0 2 0 0", "compact 1 0", "room", "compact 2 0", "room", "bal a 1", "16")
	answers(t, pairs...)
}

// A compaction whose runs the next level would not take: each posting brings 4 accounts of its own.
func TestDeskCompactsUpToTheRunsOfALevel(t *testing.T) {
	var pairs []string
	acct := 0
	next := func() string {
		acct++
		return string([]byte{byte('a' + acct/26), byte('a' + acct%26)})
	}
	for id := range 32 {
		pairs = append(pairs, fmt.Sprintf("post %d %s:1:1 %s:1:-1 %s:2:2 %s:2:-2", id, next(), next(), next(), next()), "fine")
		if id%8 == 7 {
			pairs = append(pairs, "flush", "fine")
		}
	}
	// 128 balances, 64 keys of postings and the count are more than 8 runs of 20
	pairs = append(pairs, "size", "224 0 4 0 0 0 0", "compact 0 0", "room", "size", "224 0 4 0 0 0 0", "sides 1", "32 32", "sides 2", "64 64")
	answers(t, pairs...)
}

// size behind each kind of line, up and not.
func TestDeskSize(t *testing.T) {
	answers(t,
		"size", "0 0 0 0 0 0 0",
		"post 1 a:1:5 b:1:-5", "fine", "size", "5 5 0 0 0 84 0",
		"post 1 a:1:5 b:1:-5", "twice", "size", "5 5 0 0 0 84 0",
		"post what", "what", "size", "5 5 0 0 0 84 0",
		"sync", "fine", "size", "5 5 0 0 0 84 84",
		"post 2 a:3:5 b:3:-5", "fine", "size", "10 10 0 0 0 169 84",
		"bal a 1", "5", "size", "10 10 0 0 0 169 84",
		"accts", "a\nb\nend", "size", "10 10 0 0 0 169 84",
		"lines a", "1 1 5\n2 3 5\nend", "size", "10 10 0 0 0 169 84",
		"sides 3", "5 5", "size", "10 10 0 0 0 169 84",
		"size", "10 10 0 0 0 169 84", "open", "fine", "size", "10 10 0 0 0 169 84",
		"fall 90", "fine", "size", "0 0 0 0 0 90 90",
		"open", "fine", "size", "5 5 0 0 0 84 84",
		"post 2 a:3:5 b:3:-5", "fine", "size", "10 10 0 0 0 169 84",
		"fall 168", "fine", "size", "0 0 0 0 0 168 168",
		"fall 0", "fine", "size", "0 0 0 0 0 168 168",
		"open", "fine", "size", "5 5 0 0 0 84 84",
		"flush", "fine", "size", "5 0 1 0 0 0 0",
		"post 2 a:3:5 b:3:-5", "fine", "size", "10 5 1 0 0 85 0",
		"break 7", "fine", "size", "0 0 2 0 0 7 7",
		"open", "fine", "size", "10 0 2 0 0 0 0",
		"compact 0 0", "fine", "size", "10 0 0 1 0 0 0",
		"post 3 a:2:5 b:2:-5", "fine", "flush", "fine", "size", "15 0 1 1 0 0 0",
		"compact 1 0", "fine", "size", "15 0 1 0 1 0 0",
		"fall -1", "fine", "size", "0 0 1 0 1 0 0",
		"open", "fine", "size", "15 0 1 0 1 0 0",
		"what", "what", "size", "15 0 1 0 1 0 0",
		"post 4 a:2:5 b:2:-5", "fine", "fall -99999999999999999", "fine", "size", "0 0 1 0 1 0 0", "open", "fine", "size", "15 0 1 0 1 0 0",
		"post 4 a:2:5 b:2:-5", "fine", "fall 99999999999999999", "fine", "size", "0 0 1 0 1 89 89", "open", "fine", "size", "20 5 1 0 1 89 89",
	)
}

// Accounts with and without lines, several lines of one posting, and sides of each currency.
func TestDeskOfAccounts(t *testing.T) {
	answers(t,
		"post 7 a:1:50 cash:1:-30 b:1:-20", "fine",
		"post 0 a:2:5 a:2:6 b:2:-11", "fine",
		"post 99 zzzz:3:1000 a:3:-1000", "fine",
		"post 8 c:1:4 c:1:-4", "fine",
		"accts", "a\nb\nc\ncash\nzzzz\nend",
		"lines a", "7 1 50\n0 2 5\n0 2 6\n99 3 -1000\nend",
		"lines b", "7 1 -20\n0 2 -11\nend",
		"lines c", "8 1 4\n8 1 -4\nend",
		"lines cash", "7 1 -30\nend",
		"lines zzzz", "99 3 1000\nend",
		"lines d", "end", "lines z", "end", "lines ca", "end", "lines A", "end", "lines abcde", "end", "lines 7", "end", "lines a:1", "end", "lines -", "end",
		"bal a 1", "50", "bal a 2", "11", "bal a 3", "-1000", "bal b 1", "-20", "bal b 3", "0", "bal c 1", "0", "bal zzzz 3", "1000",
		"bal a 0", "0", "bal a 4", "0", "bal a -1", "0", "bal a 99999999999999999", "0", "bal A 1", "0", "bal abcde 1", "0", "bal 1 1", "0", "bal a/1 1", "0", "bal d 1", "0",
		"sides 1", "50 50", "sides 2", "11 11", "sides 3", "1000 1000", "sides 0", "0 0", "sides 4", "0 0", "sides -1", "0 0", "sides -99999999999999999", "0 0", "sides 99999999999999999", "0 0",
	)
	// an account may be called as an answer ends
	answers(t, "post 1 end:1:5 what:1:-5", "fine", "accts", "end\nwhat\nend", "lines end", "1 1 5\nend", "bal end 1", "5")
	// and as a line begins
	answers(t, "post 1 bal:1:5 size:1:-5", "fine", "accts", "bal\nsize\nend", "lines size", "1 1 -5\nend", "bal bal 1", "5", "lines lines", "end")
}

// Each line of the table asked of a store that is not up.
func TestDeskOfAStoreThatIsNotUp(t *testing.T) {
	for _, falls := range []string{"fall 0", "break 0", "fall -5", "break -5"} {
		size := "0 0 0 0 0 84 84"
		if strings.HasPrefix(falls, "break") {
			size = "0 0 1 0 0 84 84"
		}
		answers(t,
			"post 1 a:1:5 b:1:-5", "fine", "sync", "fine", falls, "fine", "size", size,
			"post 2 a:1:5 b:1:-5", "down", "post 1 a:1:5 b:1:-5", "down", "post 2 a:1:5 b:1:-4", "down", "post 2 a:1:1000 a:1:1000 b:1:-1000 b:1:-1000", "down", "post 2 a:1", "what", "post", "what",
			"sync", "fine", "flush", "room", "compact 0 0", "room", "compact 1 0", "room", "compact 5 5", "room", "compact", "what",
			"fall 3", "fine", "fall -3", "fine", "break 3", "fine", "break -3", "fine", "fall", "what", "break x", "what", "sync 1", "what",
			"bal a 1", "0", "bal b 1", "0", "bal x 9", "0", "bal a", "what", "accts", "end", "accts 1", "what", "lines a", "end", "lines", "what", "sides 1", "0 0", "sides 9", "0 0", "sides a", "what",
			"size", size, "size 1", "what",
			"open", "fine", "bal a 1", "5", "accts", "a\nb\nend", "lines a", "1 1 5\nend", "sides 1", "5 5", "post 2 a:1:5 b:1:-5", "fine", "open", "fine", "bal a 1", "10",
		)
	}
}

// What falls is a beginning, and what was lost may come again.
func TestDeskBehindAFall(t *testing.T) {
	posts := []string{"post 1 a:1:5 b:1:-5", "post 2 a:1:7 b:1:-7", "post 3 a:1:9 b:1:-9"}
	sizes := []int{0, 84, 169, 258}
	for _, word := range []string{"fall", "break"} {
		for synced := range 4 {
			for keep := -3; keep < 262; keep++ {
				lines := slices.Insert(slices.Clone(posts), synced, "sync")
				there := 0
				for there < 3 && sizes[there+1] <= max(keep, sizes[synced]) {
					there++
				}
				if word == "break" {
					there = 3 // all is in the runs already
				}
				lines = append(lines, fmt.Sprint(word, " ", keep), "open", "bal a 1")
				want := fmt.Sprintf("fine\nfine\nfine\nfine\nfine\nfine\n%d\n", []int{0, 5, 12, 21}[there])
				if got := impl.DeskRun(strings.Join(lines, "\n")); got != want {
					t.Fatalf("%q: %q, not %q", lines, got, want)
				}
			}
		}
	}
}

func TestDeskOfSpaces(t *testing.T) {
	answers(t,
		"   post 1 a:1:5 b:1:-5", "fine",
		"post 2 a:1:5 b:1:-5   ", "fine",
		"post  3 a:1:5 b:1:-5", "fine",
		"post 4  a:1:5 b:1:-5", "fine",
		"post 5 a:1:5  b:1:-5", "fine",
		"  post    6    a:1:5     b:1:-5  ", "fine",
		"post 7  a:1:5   b:1:-4", "form",
		"post 6   a:1:5 b:1:-5", "twice",
		"post 7 a: 1:5 b:1:-5", "what", "post 7 a:1:5 b:1:- 5", "what", "post 7 a :1:5 b:1:-5", "what", "post7 a:1:5 b:1:-5", "what", "po st 7 a:1:5 b:1:-5", "what", "post 7a:1:5 b:1:-5", "what",
		"", "", " ", "", "     ", "",
		"  bal   a   1  ", "30", " accts ", "a\nb\nend", "   lines    zz   ", "end", "  sides  1 ", "30 30", "bala 1", "what", "bal a1", "what", "bal a 1 ", "30", "sides1", "what",
		"  sync  ", "fine", " flush  ", "fine", "  compact   0    0 ", "fine", " fall  1 ", "fine", "  open ", "fine", "  break   1 ", "fine", " open", "fine", "  size   ", "30 0 0 1 0 0 0", "compact 00", "what", "si ze", "what",
	)
	// the longest line
	line := "post" + strings.Repeat(" ", 10000) + "1 a:1:5" + strings.Repeat(" ", 9982) + "b:1:-5"
	if got := impl.DeskRun(line + " "); len(line) != 19999 || got != "fine\n" {
		t.Errorf("%d bytes: %q", len(line), got)
	}
}

// oddSigns is what looks like a space, ends lines elsewhere, is of several bytes, or is no text.
var oddSigns = []string{"\t", "\r", "\v", "\f", "\x00", "\x85", "\xa0", "\u0085", "\u00a0", "\u2028", "\u2029", "\u3000", "\ufeff", "\u200b", "\ufffd", "\xff", "\xc0\x80", "\xc3", "\xe4\xb8", "\xf0\x9f\x98", "é", "世", "😀", "\x7f", "_", ",", ";", "/", ":", "\\", "\"", "+", "."}

// A sign where a space would stand, or ahead of, behind or within a line, makes another word of it.
func TestDeskOfSignsThatAreNoSpaces(t *testing.T) {
	for _, sign := range oddSigns {
		for _, line := range []string{"post 1 a:1:5 b:1:-5", "sync", "flush", "compact 0 0", "fall 1", "break 1", "open", "bal a 1", "accts", "lines a", "sides 1", "size"} {
			for i, c := range []byte(line + " ") {
				with := []string{line[:i] + sign + line[i:], line[:i] + " " + sign + line[i:], line[:i] + sign + " " + line[i:]}
				if c == ' ' && i < len(line) {
					with = append(with, line[:i]+sign+line[i+1:])
				}
				for _, bent := range with {
					// any word is taken as an account, and tells nothing
					want := "what\n"
					if words := strings.Split(handWords(bent), " "); len(words) == 2 && words[0] == "lines" {
						want = "end\n"
					} else if len(words) == 3 && words[0] == "bal" && words[2] == "1" {
						want = "0\n"
					}
					for _, script := range []string{bent, bent + "\n", "  " + bent + "  ", "\n" + bent} {
						if got := impl.DeskRun(script); got != want {
							t.Fatalf("%q answers %q, not %q", script, got, want)
						}
					}
					if got := impl.DeskRun(bent + "\nsize"); got != want+"0 0 0 0 0 0 0\n" {
						t.Fatalf("%q has done something: %q", bent, got)
					}
				}
			}
		}
		// a line of it alone is a word
		answers(t, sign, "what", " "+sign+" ", "what", sign+sign, "what", "size", "0 0 0 0 0 0 0")
		// it does not end a line either
		answers(t, "sync"+sign+"sync", "what", "sync", "fine")
	}
	answers(t, "post 1 a:1:5 b:1:-5", "fine", "post 2 a:1:5 b:1:-5\r", "what", "bal a 1\r", "what", "lines a\r", "end", "bal a\r 1", "0", "accts\r", "what", "\r", "what", "bal a 1", "5")
}

func TestDeskOfNumbers(t *testing.T) {
	numbers := []string{"0", "1", "-1", "10", "-10", "2000", "12345678901234567", "-12345678901234567", "99999999999999999", "-99999999999999999", "10000000000000000", "-10000000000000000"}
	for _, n := range numbers {
		answers(t,
			"post 1 a:1:5 b:1:-5", "fine", "sync", "fine", "compact "+n+" 0", "room", "compact 0 "+n, "room", "compact "+n+" "+n, "room",
			"fall "+n, "fine", "size", "0 0 0 0 0 84 84", "open", "fine", "break "+n, "fine", "size", "0 0 1 0 0 84 84", "open", "fine", "size", "5 0 1 0 0 0 0", "compact 0 "+n, "fine", "size", "5 0 0 1 0 0 0",
			"bal zz "+n, "0", "sides 3", "0 0", "bal "+n+" 1", "0", "lines "+n, "end",
		)
		if n != "1" {
			answers(t, "post 1 a:1:5 b:1:-5", "fine", "bal a "+n, "0", "sides "+n, "0 0")
		}
	}
	for _, n := range []string{
		"100000000000000000", "-100000000000000000", "123456789012345678", "-123456789012345678", "999999999999999999", "9223372036854775807", "-9223372036854775808", "9223372036854775808", "18446744073709551616", "18446744073709551617", strings.Repeat("9", 1000), "-" + strings.Repeat("1", 1000),
		"00", "01", "-01", "000", "001", "-001", "00000000000000000", "00000000000000001", "-00000000000000001", "-0", "-00", "+0", "+1", "--1", "-+1", "+-1", "-", "+", "--", "1-", "1+", "-1-",
		"1.0", "1.", ".1", "1e0", "0x1", "0b1", "0o1", "1_0", "1,0", "x", "one", "a", "1a", "a1", "I", "NaN", "Inf", "-Inf", "\u0661", "\uff11", "\u00b2", "\u22121", "1\x00", "1\xff", "\xff", "1\t", "1\r", "\"1\"", "'1'", "(1)", "*", "#1", "$1",
	} {
		pairs := []string{"post 1 a:1:5 b:1:-5", "fine", "flush", "fine", "size", "5 0 1 0 0 0 0"}
		pairs = append(pairs, saying("what", "compact "+n+" 0", "compact 0 "+n, "compact "+n+" "+n, "fall "+n, "break "+n, "bal a "+n, "bal zz "+n, "sides "+n)...)
		answers(t, append(pairs, "size", "5 0 1 0 0 0 0", "bal a 1", "5")...)
	}
}

func TestDeskOfWordsThatAreNoLine(t *testing.T) {
	known := []string{"post", "sync", "flush", "compact", "fall", "break", "open", "bal", "accts", "lines", "sides", "size"}
	words := []string{"fly", "x", "0", "1", "-1", "what", "full", "long", "end", "fine", "form", "twice", "over", "down", "room", "snap", "drop", "write", "book", "help", "quit", "#", "//", "POST", "Post", "sYnc", "synC", "nil", "posts", "desk"}
	for _, word := range known {
		words = append(words, strings.ToUpper(word), word+"s", word+word, "x"+word, word[1:], word[:len(word)-1], word+"\x00", word+":", word+"1", "-"+word, strings.Repeat(word, 100))
		for _, other := range known {
			words = append(words, word+other)
		}
	}
	for _, word := range words {
		if slices.Contains(known, word) {
			t.Fatalf("%q is a line", word)
		}
		answers(t, word, "what", word+" 1", "what", word+" 0 0", "what", word+" a 1", "what", word+" 1 a:1:5 b:1:-5", "what", word+" a", "what", "size", "0 0 0 0 0 0 0")
	}
}

func TestDeskOfTooFewWordsAndTooMany(t *testing.T) {
	pairs := []string{"post 1 a:1:5 b:1:-5", "fine", "flush", "fine", "post 2 a:1:5 b:1:-5", "fine", "size", "10 5 1 0 0 85 0"}
	pairs = append(pairs, saying("what",
		"post", "post 3", "post a:1:5 b:1:-5", "post 3 a:1:5 b:1:-5 x", "post 3 a:1:5 b:1:-5 3", "post x 3 a:1:5 b:1:-5", "post 3 3 a:1:5 b:1:-5", "post post 3 a:1:5 b:1:-5", "post 3 a:1:1 a:1:1 a:1:1 a:1:1 b:1:-4",
		"sync 0", "sync now", "sync sync", "flush 0", "flush 0 0", "flush flush", "open 0", "open open", "compact", "compact 0", "compact 0 0 0", "compact 0 0 x", "compact compact 0 0", "fall", "fall 0 0", "fall 0 x", "fall fall", "break", "break 0 0", "break x", "break break",
		"bal", "bal a", "bal 1", "bal a 1 1", "bal a b 1", "bal a 1 x", "bal 1 a", "accts a", "accts 1", "accts accts", "lines", "lines a b", "lines a 1", "lines a a", "sides", "sides 1 1", "sides a", "sides a 1", "sides 1 a", "size 0", "size size", "size a b c d",
		"size "+strings.Repeat("x ", 1000), "post "+strings.Repeat("1 ", 1000), strings.Repeat("sync ", 1000),
	)...)
	answers(t, append(pairs, "size", "10 5 1 0 0 85 0", "lines a", "1 1 5\n2 1 5\nend")...)
}

// Postings that can not be read, and such as can, for all the spaces that are between their words.
func TestDeskOfPostingsThatCanNotBeRead(t *testing.T) {
	for _, text := range []string{
		"7", "a:1:5 b:1:-5", "7 a", "7 a:", "7 a:1", "7 a:1:", "7 :1:5", "7 a::5", "7 a:1:-", "7 1:5", "7 a:1:5 b", "7 a:1:5 b:1:", ":", "-",
		"07 a:1:5", "7 a:01:5", "7 a:1:05", "7 a:1:0", "7 a:1:-0", "7 a:1:+5", "+7 a:1:5", "-1 a:1:5", "-0 a:1:5", "100 a:1:5", "7 a:0:5", "7 a:4:5", "7 a:-1:5", "7 a:1:1001", "7 a:1:-1001", "7 abcde:1:5", "7 A:1:5", "7 a1:1:5",
		"7 a:1:5,b:1:-5", "7 a:1:5;b:1:-5", "7 a:1:5\tb:1:-5", "7\ta:1:5 b:1:-5", "7 a:1:5 b:1:-5\t", "7 a:1:5 b:1:-5\r", "7 a:1:5 b:1:-5\x00", "7 \xff:1:5", "7 é:1:5", "7 a:1:5\xff", "\xff7 a:1:5", "7 a\uff1a1:5 b:1:-5", "7 a:\u0661:5", "7\u00a0a:1:5 b:1:-5",
		"18446744073709551623 a:1:5 b:1:-5", "7 a:1:18446744073709551621 b:1:-5", "7 a:1:1 a:1:1 a:1:1 a:1:-1 a:1:-2",
	} {
		answers(t, "post "+text, "what", "post   "+strings.ReplaceAll(text, " ", "   ")+"  ", "what", "size", "0 0 0 0 0 0 0")
	}
	for _, p := range okPosts() {
		want := "form"
		if p.fair {
			want = "fine"
		}
		answers(t, "post "+p.text, want)
		answers(t, "  post   "+strings.ReplaceAll(p.text, " ", "     ")+" ", want)
		answers(t, "post "+strings.ReplaceAll(p.text, ":", " : "), "what")
	}
}

// near runs texts that are one sign away from a script.
func near(t *testing.T, script string, signs ...string) {
	t.Helper()
	for i := range len(script) + 1 {
		ran(t, script[:i])
		ran(t, script[i:])
		for _, sign := range signs {
			ran(t, script[:i]+sign+script[i:])
			if i < len(script) {
				ran(t, script[:i]+sign+script[i+1:])
			}
		}
	}
}

func TestDeskOfScriptsNearby(t *testing.T) {
	near(t, "post 1 a:1:5 b:1:-5\nsync\nflush\ncompact 0 0\nfall 1\nopen\nbal a 1\nsize", " ", "\n", "0", "1", "-", "a", "\xff", "\t", "")
	near(t, "post 10 a:2:50 a:1:5 b:1:-5 b:2:-50\nbreak 9\nopen\naccts\nlines a\nsides 2", "  ", " \n ", "9", ":", "s", "é")
}

func TestDeskOf20000BytesAndOneMore(t *testing.T) {
	padded := func(size int, ahead string, behind string, pad string) string {
		return ahead + strings.Repeat(pad, size-len(ahead)-len(behind)) + behind
	}
	for _, c := range []struct{ ahead, behind, pad, want string }{
		{"", "", " ", ""}, {"", "", "\n", ""}, {"", "", "x", "what\n"}, {"", "", "\xff", "what\n"}, {"size", "", " ", "0 0 0 0 0 0 0\n"}, {"", "size", " ", "0 0 0 0 0 0 0\n"}, {"size", "", "\n", "0 0 0 0 0 0 0\n"}, {"size\n", "\n", " ", "0 0 0 0 0 0 0\n"},
		{"sync\n", "\nsync", " ", "fine\nfine\n"}, {"sync\n", "\nsync\n", " ", "fine\nfine\n"}, {"sync\n", "\nsync\n", "x", "fine\nwhat\nfine\n"}, {"post 1 a:1:5", "b:1:-5\naccts", " ", "fine\na\nb\nend\n"}, {"bal a ", "1", "0", "what\n"}, {"lines ", "", "a", "end\n"}, {"bal ", " 1\n", "\u4e16"[:1], "0\n"},
	} {
		for _, size := range []int{19998, 19999, 20000} {
			if got := impl.DeskRun(padded(size, c.ahead, c.behind, c.pad)); got != c.want {
				t.Errorf("%d bytes of %v: %q", size, c, got)
			}
			ran(t, padded(size, c.ahead, c.behind, c.pad))
		}
		for _, size := range []int{20001, 20002, 40000, 1 << 20} {
			if got := impl.DeskRun(padded(size, c.ahead, c.behind, c.pad)); got != "long\n" {
				t.Errorf("%d bytes of %v: %.100q", size, c, got)
			}
		}
	}
	// bytes are counted, not signs
	if got := impl.DeskRun(strings.Repeat("世", 6666)); got != "what\n" {
		t.Errorf("%q", got)
	}
	if got := impl.DeskRun(strings.Repeat("世", 6667)); got != "long\n" {
		t.Errorf("%q", got)
	}
}

func TestDeskOf200LinesAndOneMore(t *testing.T) {
	for _, c := range []struct{ line, answer string }{{"sync", "fine\n"}, {"fly", "what\n"}, {"", ""}, {"   ", ""}, {"bal a 1", "0\n"}, {"accts", "end\n"}, {"post 1 a:1:5", "form\n"}} {
		ahead := func(n int) (string, string) { return strings.Repeat(c.line+"\n", n), strings.Repeat(c.answer, n) }
		for _, last := range []struct{ line, answer, full string }{{"size", "0 0 0 0 0 0 0\n", "full\n"}, {"fly", "what\n", "full\n"}, {"post", "what\n", "full\n"}, {"\t", "what\n", "full\n"}, {"", "", ""}, {"   ", "", ""}} {
			for _, n := range []int{0, 1, 150, 198, 199, 200, 201, 202, 500} {
				script, want := ahead(n)
				if n > 200 && c.answer != "" {
					_, want = ahead(200)
					want += "full\n"
				} else if n >= 200 {
					want += last.full
				} else {
					want += last.answer
				}
				for _, end := range []string{"", "\n", "\n\n \n", "  "} {
					if got := impl.DeskRun(script + last.line + end); got != want {
						t.Fatalf("%d lines of %q, and %q: %.300q, not %.300q", n, c.line, last.line+end, got, want)
					}
				}
			}
		}
	}
	// full is answered once, and behind it nothing is done or answered
	script := strings.Repeat("sync\n", 200)
	for _, more := range []string{"size", "size\nsize\nsize", "\n\n\nsize", "  \nsize\n\nsize", "fly\nfly"} {
		if got := impl.DeskRun(script + more); got != strings.Repeat("fine\n", 200)+"full\n" {
			t.Errorf("%q: %q", more, got)
		}
	}
	// lines without words count, wherever they stand
	script = strings.Repeat("\n  \nsync\n", 66) + "sync\n"
	if got := impl.DeskRun(script + "size\nsize"); got != strings.Repeat("fine\n", 67)+"0 0 0 0 0 0 0\nfull\n" {
		t.Errorf("%q", got)
	}
	if got := impl.DeskRun(strings.Repeat("\n", 19996) + "size"); got != "full\n" {
		t.Errorf("%q", got)
	}
}

// wordy is a script that answers just so many bytes: long answers, and then shorter ones, as far as they fit.
func wordy(t *testing.T, size int) string {
	t.Helper()
	var lines []string
	for id := range 40 {
		acct := "ab"[id/36:][:1]
		lines = append(lines, strings.ReplaceAll(fmt.Sprintf("post %d ACCT:1:100 ACCT:1:-100 ACCT:2:100 ACCT:2:-100", 10+id), "ACCT", acct))
		if id%8 == 7 {
			lines = append(lines, "flush", "compact 0 0")
		}
	}
	fill := []string{"lines a", "lines b", "size", "fly", "bal b 1"}
	all := handScript(strings.Join(slices.Concat(lines, fill), "\n"))
	left := size - len(strings.Join(all[:len(lines)], ""))
	for i, line := range fill {
		answer := len(all[len(all)-len(fill)+i])
		for left >= answer+10 || answer == 5 && left%2 == 1 || answer == 2 && left >= 2 {
			lines = append(lines, line)
			left -= answer
		}
	}
	if left != 0 || len(lines) > 195 {
		t.Fatalf("%d bytes are left behind %d lines", left, len(lines))
	}
	return strings.Join(lines, "\n")
}

func TestDeskOf20000BytesOfAnswersAndMore(t *testing.T) {
	for size := 19998; size <= 20002; size++ {
		script := wordy(t, size)
		ahead := strings.Join(ran(t, script), "")
		if len(ahead) != size {
			t.Fatalf("%d, not %d", len(ahead), size)
		}
		for _, c := range []struct{ line, answer string }{{"sync", "fine\n"}, {"fly", "what\n"}, {"", ""}, {"  ", ""}, {"lines a", "*"}} {
			behind := strings.Join(ran(t, script+"\n"+c.line+"\n"), "")[len(ahead):]
			switch {
			case c.answer == "":
				if behind != "" {
					t.Fatalf("%d bytes, and %q: %q", size, c.line, behind)
				}
			case size > 20000:
				if behind != "full\n" {
					t.Fatalf("%d bytes, and %q: %q", size, c.line, behind)
				}
			case c.answer == "*":
				// what is begun is answered whole, far beyond
				if len(behind) < 1000 || !strings.HasSuffix(behind, " -100\nend\n") {
					t.Fatalf("%d bytes, and %q: %q", size, c.line, behind)
				}
			case behind != c.answer:
				t.Fatalf("%d bytes, and %q: %q", size, c.line, behind)
			}
		}
		if got := impl.DeskRun(script + "\nlines a\n\n\nsize\nsize"); !strings.HasSuffix(got, "\nfull\n") || strings.Count(got, "full") != 1 {
			t.Fatalf("%d bytes: %q", size, got)
		}
	}
}

// deskPlay makes scripts.
type deskPlay struct{ rnd uint32 }

func (p *deskPlay) next(n int) int {
	p.rnd = p.rnd*1664525 + 1013904223
	return int(p.rnd>>8) % n
}

func (p *deskPlay) of(all ...string) string { return all[p.next(len(all))] }

// spaced is words with one space between, or with more, and perhaps some ahead and behind.
func (p *deskPlay) spaced(words string) string {
	if p.next(3) > 0 {
		return words
	}
	line := p.of("", " ", "   ")
	for word := range strings.SplitSeq(words, " ") {
		line += word + p.of(" ", "  ", "     ")
	}
	return line
}

// posts is a line with a posting. Most of them are fair, and those of wide have more accounts and bring no balance near its bound.
func (p *deskPlay) posts(wide bool) string {
	if !wide {
		q := nextPost(&p.rnd)
		return "post " + strconv.Itoa(q.Id) + strings.TrimPrefix(impl.PostText(impl.Post{Legs: q.Legs}), "0")
	}
	n := 1 + p.next(9)
	cur := 1 + p.next(3)
	return fmt.Sprintf("post %d %s:%d:%d %s:%d:%d", p.next(100), p.of("a", "b", "c", "cash", "zz", "zzzz"), cur, n, p.of("a", "b", "c", "cash", "d", "dd"), cur, -n)
}

// asks is a line that asks of the accounts.
func (p *deskPlay) asks() string {
	switch p.next(4) {
	case 0:
		return "accts"
	case 1:
		return "lines " + p.of("a", "b", "c", "cash", "zz", "d", "zzzz", "A", "\xff", "0")
	case 2:
		return "sides " + p.of("1", "2", "3", "0", "4", "-1", "99999999999999999")
	}
	return "bal " + p.of("a", "b", "c", "cash", "zz", "d", "zzzz", "A", "\xff", "0") + " " + p.of("1", "1", "2", "3", "0", "4", "-1")
}

// wrong is a line that is none.
func (p *deskPlay) wrong() string {
	return p.of("fly", "post", "post 1", "post 1 a:1:0", "sync 1", "compact 0", "compact x 0", "fall", "fall 01", "break -0", "bal a", "bal a +1", "accts a", "lines", "sides x", "size 1", "open\t", "\r", "\xff\xfe", "世 界", "sync\x00", "fall 123456789012345678")
}

// line is any line.
func (p *deskPlay) line(wide bool) string {
	n := p.next(100)
	switch {
	case n < 36:
		return p.posts(wide)
	case n < 42:
		return "sync"
	case n < 52:
		return "flush"
	case n < 62:
		return fmt.Sprintf("compact %d %d", p.next(5)/2, p.next(5)-1)
	case n < 66:
		return fmt.Sprintf("%s %d", p.of("fall", "break"), p.next(400)-20)
	case n < 75:
		return "open"
	case n < 80:
		return "size"
	case n < 94:
		return p.asks()
	case n < 97:
		return p.wrong()
	}
	return p.of("", " ", "    ")
}

// Promise 13, of many scripts: each line answers what is worked out by hand, and cut anywhere a script answers a beginning.
func TestAScriptAnswersWhatItsFirstLinesAnswer(t *testing.T) {
	done := map[string]int{}
	for seed := range uint32(30) {
		p := deskPlay{seed*2654435761 + 7}
		var lines []string
		for range 210 {
			lines = append(lines, p.spaced(p.line(seed%2 == 0)))
		}
		whole := strings.Join(lines, "\n")
		all := ran(t, whole)
		for i, answer := range all {
			word, _, _ := strings.Cut(handWords(lines[i]), " ")
			done[word+" "+strings.TrimRight(answer, "\n")]++
		}
		// cut at each place in some script, and at some places in each
		for cut := int(seed % 10); cut <= len(lines); cut += 10 {
			first := strings.Join(lines[:cut], "\n")
			want := strings.Join(all[:min(cut, len(all))], "")
			end := p.of("", "\n", "\n  \n")
			if got := impl.DeskRun(first + end); got != want || !strings.HasPrefix(strings.Join(all, ""), got) {
				t.Fatalf("cut behind %d lines %q answers %q, not %q", cut, first+end, got, want)
			}
		}
	}
	for _, what := range []string{
		"post fine", "post form", "post twice", "post over", "post full", "post down", "post room", "post what", "sync fine", "flush fine", "flush room", "compact fine", "compact room", "fall fine", "break fine", "open fine",
		"size 0 0 0 0 0 0 0", "accts end", "lines end", "sides 0 0", "bal 0", "fly what", "fall what", " ",
	} {
		if done[what] < 3 {
			t.Errorf("%s: %d", what, done[what])
		}
	}
}

// safeScript is lines of which each answers the same, whatever is flushed and compacted between them: what is in no run has room for all, and ahead of a fall all is made safe.
func (p *deskPlay) safeScript() []string {
	var lines []string
	room := 60
	for range 40 {
		switch n := p.next(10); {
		case n < 4:
			line := p.posts(p.next(2) == 0)
			if entries := 3 + strings.Count(line, ":")/2; entries <= room {
				room -= entries
				lines = append(lines, line)
			}
		case n == 4:
			lines = append(lines, "sync", fmt.Sprintf("%s %d", p.of("fall", "break"), p.next(200)-20), p.posts(true), p.asks(), "open")
		case n == 5:
			lines = append(lines, p.of("sync", "open", p.wrong(), ""))
		default:
			lines = append(lines, p.asks())
		}
	}
	return append(lines, "accts", "lines a", "lines b", "lines cash", "bal a 1", "bal b 1", "bal cash 2", "sides 1", "sides 2", "sides 3")
}

// Promise 13, of many scripts: with flush and compact anywhere between their lines, and without, they answer the same of their accounts.
func TestAScriptAnswersTheSameHoweverItIsFlushedAndCompacted(t *testing.T) {
	fine := map[string]int{}
	for seed := range uint32(30) {
		p := deskPlay{seed*2654435761 + 11}
		lines := p.safeScript()
		want := strings.Join(ran(t, strings.Join(lines, "\n")), "")
		for often := range 8 {
			var with []string
			for i, line := range lines {
				if with = append(with, line); i == len(lines)-1 {
					break
				}
				for range min(p.next(1+often), 3) {
					with = append(with, p.of("flush", "flush", "compact 0 0", "compact 0 0", "compact 1 0", "compact 1 1", "compact 1 2", "flush\nflush"))
				}
			}
			script := strings.Join(with, "\n")
			if strings.Count(script, "\n") >= 200 {
				continue
			}
			got := ""
			at := 0
			all := ran(t, script)
			for _, line := range with {
				answer := strings.Join(all[at:at+1+strings.Count(line, "\n")], "")
				if at += 1 + strings.Count(line, "\n"); !isTurning(line) {
					got += answer
				} else {
					fine[line+" "+strings.TrimRight(answer, "\n")]++
				}
			}
			if got != want {
				t.Fatalf("%q answers %q of its accounts, not %q", script, got, want)
			}
		}
	}
	for _, what := range []string{"flush fine", "flush room", "compact 0 0 fine", "compact 0 0 room", "compact 1 0 fine", "compact 1 0 room", "compact 1 1 fine", "flush\nflush fine\nroom"} {
		if fine[what] < 10 {
			t.Errorf("%s: %d", what, fine[what])
		}
	}
}

// isTurning says whether a line is one of those that were put between.
func isTurning(line string) bool {
	return strings.HasPrefix(line, "flush") || strings.HasPrefix(line, "compact 0 0") || strings.HasPrefix(line, "compact 1 ")
}

// The questions of one script, asked behind each line of all orders in which a store may be flushed and compacted.
func TestAScriptAnswersTheSameInEachOrder(t *testing.T) {
	posts := []string{"post 1 a:1:900 b:1:-900", "post 2 a:1:-900 b:1:900", "post 3 a:2:5 cash:2:-5 a:1:7 cash:1:-7"}
	asks := "\naccts\nlines a\nlines cash\nbal a 1\nbal b 1\nbal a 2\nsides 1\nsides 2"
	want := impl.DeskRun(strings.Join(posts, "\n") + asks)
	want = strings.TrimPrefix(want, "fine\nfine\nfine\n")
	if want != "a\nb\ncash\nend\n1 1 900\n2 1 -900\n3 2 5\n3 1 7\nend\n3 2 -5\n3 1 -7\nend\n7\n0\n5\n7 7\n5 5\n" {
		t.Fatalf("%q", want)
	}
	turns := []string{"", "flush", "flush\ncompact 0 0", "flush\ncompact 0 0\ncompact 1 0", "compact 0 0", "compact 1 0", "flush\nbreak 0\nopen", "break 0\nopen", "sync\nfall 0\nopen"}
	for _, a := range turns {
		for _, b := range turns {
			for _, c := range turns {
				for _, d := range turns {
					script := strings.Join([]string{posts[0], a, posts[1], b, posts[2], c, d}, "\n")
					got := impl.DeskRun(script + asks)
					if !strings.HasSuffix(got, "\n"+want) || strings.Contains(strings.TrimSuffix(got, want), "what") {
						t.Fatalf("%q answers %q, not %q", script, got, want)
					}
				}
			}
		}
	}
}

// Nothing is kept between two scripts, and nothing hangs on the order in which a map is gone through.
func TestDeskAnswersAlwaysTheSame(t *testing.T) {
	example := scriptOf(deskExample)
	want := impl.DeskRun(example)
	for i := range 100 {
		if got := impl.DeskRun("accts\nsize\nbal a 1"); got != "end\n0 0 0 0 0 0 0\n0\n" {
			t.Fatalf("%q", got)
		}
		impl.DeskRun(example[:i*len(example)/100])
		if got := impl.DeskRun(example); got != want {
			t.Fatalf("%q, not %q", got, want)
		}
	}
}

func TestDeskGivesNewMemory(t *testing.T) {
	for _, text := range []string{scriptOf(deskExample), "accts", "post 1 a:1:5 b:1:-5\naccts\nlines a", "what", "full", "long", strings.Repeat("long\n", 5000), "fine\n"} {
		given := strings.Clone(text)
		got := impl.DeskRun(given)
		if given != text || got == "" {
			t.Fatalf("%q, %q", given, got)
		}
		apartFrom(t, "DeskRun", []span{textSpan(got)}, []span{textSpan(given)})
		again := impl.DeskRun(given)
		apartFrom(t, "DeskRun", []span{textSpan(got)}, []span{textSpan(again)})
	}
}
