package tests

import (
	"fmt"
	"math/rand"
	"regexp"
	"slices"
	"strings"
	"testing"

	"loop.example/kilndeed/impl"
)

// whole is a command with all lines that belong to it.
type whole struct {
	lines []string
	open  bool // a target's whose end is missing
}

const aWord = `([^ ]+)`

// sessionLine is the lines that are commands, said once more as an expression.
var sessionLine = regexp.MustCompile(`^(?:(source) ` + aWord + ` ` + aText +
	`|(target|drop|make|depends|cut|why|cover|seal) ` + aWord + `|(audit|names|sources|keep|stale))$`)

// tellWholes are the commands of a text.
func tellWholes(text string) []whole {
	var list []whole
	taking := false
	for _, line := range strings.SplitAfter(text, "\n") {
		if line == "" {
			continue
		}
		line = strings.TrimSuffix(line, "\n")
		if taking {
			last := &list[len(list)-1]
			last.lines = append(last.lines, line)
			taking = line != "."
			last.open = taking
			continue
		}
		group := sessionLine.FindStringSubmatch(line)
		taking = group != nil && group[4] == "target"
		list = append(list, whole{[]string{line}, taking})
	}
	return list
}

// teller is a session in the words of the other tests: its space a model, all that is
// made and asked told by them.
type teller struct {
	m       model
	account impl.Account
	kept    []impl.Account
}

// tellSession is what Session must answer.
func tellSession(text string) string {
	list := tellWholes(text)
	if len(text) > 20000 || len(list) > 500 {
		return "too long\n"
	}
	s := teller{m: model{}}
	var out strings.Builder
	for _, c := range list {
		out.WriteString(s.tell(c) + "\n")
	}
	return out.String()
}

func (s *teller) tell(c whole) string {
	group := sessionLine.FindStringSubmatch(c.lines[0])
	if group == nil || c.open {
		return "bad"
	}
	word, operand := group[1]+group[4]+group[6], group[2]+group[5]
	switch word {
	case "source":
		return s.put(operand, thing{text: tellText(group[3])})
	case "target":
		p, fault := impl.ParseProgram(linesOf(c.lines[1 : len(c.lines)-1]))
		if fault.Code != 0 {
			return "no"
		}
		return s.put(operand, thing{action: p.Code})
	case "drop":
		return s.drop(operand)
	case "make":
		return s.make(operand)
	case "cover":
		return tellList(tellCover(s.kept, operand))
	case "stale":
		return tellList(tellStale(s.kept, s.m))
	case "seal":
		form := tellForm(s.account)
		if len(s.account.Deeds) == 0 || len(form) > 300000 || len(operand) > 60 {
			return "none"
		}
		return tellSeal(form, operand)[:16]
	}
	if len(s.account.Deeds) == 0 {
		return "bad"
	}
	return s.ask(word, operand)
}

// ask tells what is answered to a command that needs an account, where there is one.
func (s *teller) ask(word, operand string) string {
	names, sources := tellNames(s.account)
	switch word {
	case "audit":
		code, at := tellAudit(s.account, s.m, true)
		return fmt.Sprintf("code %d at %d", code, at)
	case "names":
		return tellList(names)
	case "sources":
		return tellList(sources)
	case "depends":
		return tellList(tellDepends(s.account, operand))
	case "cut":
		a := tellCut(s.account, operand)
		if len(a.Deeds) > 0 {
			s.account = a
		}
		return fmt.Sprintf("deeds %d", len(a.Deeds))
	case "why":
		for i, a := range s.kept {
			if fmt.Sprint(i) == operand {
				return tellList(tellWhy(a, s.account))
			}
		}
		return "bad"
	}
	if len(s.kept) == 50 {
		return "bad"
	}
	s.kept = append(s.kept, s.account)
	return fmt.Sprintf("kept %d", len(s.kept))
}

func (s *teller) put(name string, th thing) string {
	_, there := s.m[name]
	switch {
	case !nameByBytes(name) || len(th.text) > 2000:
		return "code 2"
	case !there && len(s.m) == 200:
		return "code 3"
	}
	s.m = s.m.with(name, th)
	return "code 0"
}

func (s *teller) drop(name string) string {
	if !nameByBytes(name) {
		return "code 2"
	}
	if _, there := s.m[name]; !there {
		return "code 4"
	}
	s.m = s.m.without(name)
	return "code 0"
}

func (s *teller) make(name string) string {
	if !nameByBytes(name) {
		return "9 \"\" deeds 0"
	}
	a, r := tellMake(s.m, name)
	words := []string{fmt.Sprint(r.Code), inQuotes(r.Text)}
	if len(r.Chain) > 0 {
		words = append(append(words, "circle"), r.Chain...)
	}
	if len(a.Deeds) > 0 {
		s.account = a
	}
	return strings.Join(append(words, "deeds", fmt.Sprint(len(a.Deeds))), " ")
}

func tellList[T any](list []T) string {
	var words []string
	for _, x := range list {
		words = append(words, fmt.Sprint(x))
	}
	if words == nil {
		return "-"
	}
	return strings.Join(words, " ")
}

// first asks P16 of a text: it is answered as it must be, and the first of its
// commands are answered the same, whatever stands behind them.
func first(t *testing.T, text string) {
	t.Helper()
	got := impl.Session(text)
	if want := tellSession(text); got != want {
		t.Fatalf("%.2000q\nis answered %.2000q\nwant %.2000q", text, got, want)
	}
	if got == "too long\n" {
		return
	}
	list := tellWholes(text)
	said := strings.SplitAfter(got, "\n")
	for k := 0; k <= len(list); k += 1 + len(list)/8 {
		beginning := ""
		for _, c := range list[:k] {
			beginning += linesOf(c.lines)
		}
		behinds := []string{"", "make a\nnames\n", "drop a\nx", "\n", "target a\nend"}
		if k > 0 && list[k-1].open {
			behinds = behinds[:1] // what stood there would be its own
		}
		want := strings.Join(said[:k], "")
		for _, behind := range behinds {
			if s := impl.Session(beginning + behind); !strings.HasPrefix(s, want) && s != "too long\n" {
				t.Fatalf("%.2000q\nis answered %.2000q\nbut its beginning %.2000q", beginning+behind, s, want)
			}
		}
	}
}

// rightLines is a line of each command, and what is answered to it behind setting.
func rightLines() ([]string, []string) {
	return []string{"source b \"y z\"", "drop a", "make t", "audit", "names", "sources", "depends a", "cut a", "keep", "why 0", "cover a", "stale", "seal k"},
		[]string{"code 0", "code 0", `0 "x" deeds 2`, "code 0 at 0", "a t", "a", "t", "deeds 1", "kept 2", "-", "0", "-", tellSeal(tellForm(setting()), "k")[:16]}
}

const (
	settingText = "source a \"x\"\ntarget t\nlit \"a\"\nask\nend\n.\nmake t\nkeep\n"
	probeText   = "audit\nnames\nsources\nwhy 0\nkeep\nstale\nmake b\n"
)

var (
	settingSaid = []string{"code 0", "code 0", `0 "x" deeds 2`, "kept 1"}
	probeSaid   = []string{"code 0 at 0", "a t", "a", "-", "kept 2", "-", `4 "b" deeds 1`}
)

// setting is the account of a session behind settingText.
func setting() impl.Account {
	a, _ := tellMake(model{"a": {text: "x"}, "t": asks("a")}, "t")
	return a
}

// noCommand asks that a line is bad, with an account and without one, and that it
// changes nothing.
func noCommand(t *testing.T, line string) {
	t.Helper()
	answers(t, settingText+line+"\n"+probeText, slices.Concat(settingSaid, []string{"bad"}, probeSaid)...)
	answers(t, line+"\nnames\ncover a\nmake a\n", "bad", "bad", "-", `4 "a" deeds 1`)
}

func TestWordsOfCommands(t *testing.T) {
	lines, said := rightLines()
	for i, line := range lines {
		answers(t, settingText+line+"\n", append(slices.Clone(settingSaid), said[i])...)
		word, operand, _ := strings.Cut(line, " ")
		for _, wrong := range []string{
			" " + line, line + " ", "\t" + line, line + "\t \t", "  " + line, line + "  ",
			line + " b", line + " \"x\"", line + " 0", line + "  b",
			strings.ToUpper(line[:1]) + line[1:], strings.ToUpper(line), "\"" + word + "\" " + operand,
			word + "s " + operand, word[:len(word)-1], word[:len(word)-1] + " " + operand, "x" + line, word + "\r", word + "\x00", word + ".", "> " + line, word + ":" + operand,
			word + "  " + operand, word + "\t" + operand, word + " ", word + "  ",
		} {
			noCommand(t, wrong)
		}
		if operand != "" {
			noCommand(t, word)
		}
	}
}

func TestLinesThatAreNoCommand(t *testing.T) {
	for _, line := range []string{
		"", " ", "  ", ".", "..", "-", "0", "x", "\x00", "\xff", "\r", "\t", "bad", "no", "none", "code 0", "kept 1", "too long", "account 1",
		"lit \"a\"", "end", "ask", "has a 1", "none a", "put a", "clean a", "texts", "follows", "form", "unseal k", "read", "sources a", "names a", "audit 0", "stale 0", "keep 0", "# names", "names;", "names names",
		"source", "source ", "source a", "source a ", "source  ", "source \"x\"", "source  \"x\"", "source a  \"x\"", "source a \"x\" ", "source a \"x\" y", "source a \"x\"\"", "source a \"x\" \"y\"", "source a b \"x\"",
		"drop", "drop ", "drop  a", "drop a b", "make", "make ", "make  t", "make t t", "depends", "depends a t", "cut", "cut a t", "cover", "cover a t", "seal", "seal ", "seal  ", "seal k k", "why", "why ", "why a", "why 0 0",
		strings.Repeat("names ", 100), strings.Repeat("x", 5000),
	} {
		noCommand(t, line)
	}
}

func TestTextsInQuotesOfASession(t *testing.T) {
	for _, q := range []string{
		"x", "\"", "\"x", "x\"", "'x'", "\"x\"y", "y\"x\"", "\"x\" ", " \"x\"", "\"x\"\"", "\"x\"\t", "\"x\"\r", "\"\"\"", "\"a\"b\"", "\"x\\\"", "\"\\\"",
		`"\41"`, `"\20"`, `"\0A"`, `"\FF"`, `"\n"`, `"\x0a"`, `"\0"`, `"\0g"`, `"\ 0"`, `"\000a"x`, `"\\"`, `"\""`, `"\7e"`, `"\5d"`, "\"\x00\"", "\"\t\"", "\"\x7f\"", "\"\x80\"", "\"é\"", "`x`",
	} {
		noCommand(t, "source a "+q)
	}
	for q, text := range map[string]string{`""`: "", `" "`: " ", `"\22"`: "\"", `"\5c"`: "\\", `"\0a"`: "\n", `"\00\ff\7f\80"`: "\x00\xff\x7f\x80", `"\5cn"`: "\\n", `"  x  y  "`: "  x  y  ", `"'"`: "'", `"\000a"`: "\x000a"} {
		answers(t, "source a "+q+"\nmake a\nseal k\n", "code 0", "0 "+q+" deeds 1", tellSeal(tellForm(account(sourceDeed("a", text))), "k")[:16])
	}
}

func TestNumbersOfASession(t *testing.T) {
	for _, n := range []string{"00", "01", "+0", "-0", "-1", "0x0", "0.0", "0.", ".0", "0e0", "1e0", "0_0", "\"0\"", "0\r", "0\t", "\t0", "a", "one", "0,", "1", "2", "50", "9223372036854775807", "9223372036854775808", "18446744073709551616", "-9223372036854775808", "99999999999999999999999", "\xd9\xa0", "４"} {
		noCommand(t, "why "+n)
	}
	// All numbers of kept accounts, up to where those of two digits begin, and one more.
	text, want := "make a\n", []string{`4 "a" deeds 1`}
	for i := range 12 {
		text, want = text+fmt.Sprintf("why %d\nkeep\nwhy %d\nwhy 0%d\n", i, i, i), append(want, "bad", fmt.Sprintf("kept %d", i+1), "-", "bad")
	}
	answers(t, text, want...)
}

func TestLinesAndTheirEnds(t *testing.T) {
	answers(t, "")
	answers(t, "\n", "bad")
	answers(t, "\n\n", "bad", "bad")
	answers(t, " ", "bad")
	answers(t, "make a", `4 "a" deeds 1`)
	answers(t, "make a\n", `4 "a" deeds 1`)
	answers(t, "make a\n\n", `4 "a" deeds 1`, "bad")
	answers(t, "\nmake a", "bad", `4 "a" deeds 1`)
	answers(t, "make a\n\nnames", `4 "a" deeds 1`, "bad", "a")
	answers(t, "make a\n ", `4 "a" deeds 1`, "bad")
	answers(t, "make a\r\nnames\r\n", `9 "" deeds 0`, "bad")
	answers(t, "make a\rnames", `9 "" deeds 0`)
	answers(t, "make a\n\rnames\n", `4 "a" deeds 1`, "bad")
	answers(t, "make a\u2028names\vnames\fnames\x85", `9 "" deeds 0`)
}

// randomLine is a line of a session or a whole command of a target, mostly of few names.
func randomLine(r *rand.Rand, names []string) string {
	name := names[r.Intn(len(names))]
	switch r.Intn(16) {
	case 0, 1:
		return fmt.Sprintf("source %s %s\n", name, inQuotes([]string{"a", "b c", "", "x", "e", randomText(r, 4)}[r.Intn(6)]))
	case 2, 3, 4:
		return fmt.Sprintf("target %s\n%s.\n", name, impl.PrintProgram(program(randomAction(r, names).action...)))
	case 5:
		return "drop " + name + "\n"
	case 6, 7, 8:
		return "make " + name + "\n"
	case 9:
		return []string{"depends ", "cover ", "cut ", "seal "}[r.Intn(4)] + name + "\n"
	case 10:
		return fmt.Sprintf("why %d\n", r.Intn(4))
	case 11:
		return []string{"", " ", ".", "x", "target", "source a", "why", "make\t"}[r.Intn(8)] + "\n"
	}
	return []string{"audit", "names", "sources", "keep", "stale"}[r.Intn(5)] + "\n"
}

func TestSessionsAtRandom(t *testing.T) {
	r := rand.New(rand.NewSource(18))
	names := []string{"a", "b", "c", "d", "e", "x"}
	seen := map[string]int{}
	for range 1500 {
		text := ""
		if r.Intn(3) > 0 {
			text, _ = puts(randomModel(r, names))
		}
		for range r.Intn(40) {
			text += randomLine(r, names)
		}
		switch r.Intn(4) {
		case 0:
			text = spoil(r, text)
		case 1:
			text = spoilLines(r, text)
		case 2:
			text = strings.TrimSuffix(text, "\n")
		}
		first(t, text)
		for line := range strings.Lines(impl.Session(text)) {
			word, _, _ := strings.Cut(strings.TrimSpace(line), " ")
			seen[word]++
			if strings.Contains(line, " circle ") {
				seen["circle"]++
			}
		}
	}
	for _, word := range []string{"code", "no", "bad", "-", "deeds", "kept", "none", "circle", "0", "1", "2", "4", "5", "6", "a"} {
		if seen[word] < 40 {
			t.Errorf("%q is answered %d times: %v", word, seen[word], seen)
		}
	}
}

// Long sessions of short lines come near to MaxLines and to MaxAccounts.
func TestLongSessionsAtRandom(t *testing.T) {
	r := rand.New(rand.NewSource(19))
	seen := map[bool]int{}
	for range 60 {
		text := ""
		for range 485 + r.Intn(30) {
			text += []string{"make a\n", "keep\n", "names\n", "source a \"x\"\n", "drop a\n", "stale\n", "x\n", "\n", "target a\nlit \"x\"\nend\n.\n", "why 49\n", "why 50\n", "cover a\n"}[r.Intn(12)]
		}
		first(t, text)
		seen[impl.Session(text) == "too long\n"]++
	}
	if seen[true] < 10 || seen[false] < 10 {
		t.Errorf("too few sessions that are too long, or that are not: %v", seen)
	}
}

func TestSessionsOfAnyBytes(t *testing.T) {
	r := rand.New(rand.NewSource(20))
	for range 2000 {
		first(t, randomText(r, 60))
	}
	first(t, allBytes())
	first(t, strings.Repeat(allBytes(), 70))
}
