package tests

import (
	"fmt"
	"math/rand"
	"regexp"
	"slices"
	"strconv"
	"strings"
	"testing"

	"loop.example/kilndeed/impl"
)

func inQuotes(s string) string {
	var out strings.Builder
	for i := range len(s) {
		out.WriteString(quoted(s[i]))
	}
	return "\"" + out.String() + "\""
}

// tellForm is the form of an account, also of one that is not valid or too long.
func tellForm(a impl.Account) string {
	lines := []string{fmt.Sprintf("account %d", len(a.Deeds))}
	put := func(format string, words ...any) { lines = append(lines, fmt.Sprintf(format, words...)) }
	for _, d := range a.Deeds {
		switch d.Kind {
		case 1:
			put("source %s %s", d.Name, inQuotes(d.Text))
		case 2:
			put("none %s", d.Name)
		case 3:
			put("target %s %d %s", d.Name, d.Code, inQuotes(d.Text))
			for _, in := range d.Action.Code {
				put("do %s", strings.TrimSuffix(impl.PrintProgram(program(in)), "\n"))
			}
			for _, l := range d.Links {
				if l.Ask {
					put("ask %s %d", l.Name, l.At)
				} else {
					put("has %s %d", l.Name, map[bool]int{true: 1}[l.Has])
				}
			}
			put("end")
		}
	}
	return strings.Join(lines, "\n") + "\n"
}

const (
	aNumber = `(0|[1-9][0-9]{0,5})`
	aName   = `([!-~]{1,60})`
	aText   = `"((?:[ !#-\[\]-~]|\\(?:[01][0-9a-f]|22|5c|7f|[89a-f][0-9a-f]))*)"`
)

// The lines of a form, said once more as expressions.
var (
	accountLine = regexp.MustCompile(`^account ` + aNumber + `$`)
	sourceLine  = regexp.MustCompile(`^source ` + aName + ` ` + aText + `$`)
	noneLine    = regexp.MustCompile(`^none ` + aName + `$`)
	targetLine  = regexp.MustCompile(`^target ` + aName + ` ` + aNumber + ` ` + aText + `$`)
	askLine     = regexp.MustCompile(`^ask ` + aName + ` ` + aNumber + `$`)
	hasLine     = regexp.MustCompile(`^has ` + aName + ` ([01])$`)
)

func tellNumber(s string) int {
	n, _ := strconv.Atoi(s)
	return n
}

var written = regexp.MustCompile(`\\[0-9a-f]{2}`)

func tellText(s string) string {
	return written.ReplaceAllStringFunc(s, func(b string) string {
		n, _ := strconv.ParseUint(b[1:], 16, 8)
		return string([]byte{byte(n)})
	})
}

// tellTarget reads the lines behind that of a target, and gives those behind its end.
func tellTarget(d impl.Deed, lines []string) (impl.Deed, []string, bool) {
	for ; len(lines) > 0 && strings.HasPrefix(lines[0], "do ") && lineForm.MatchString(lines[0][3:]); lines = lines[1:] {
		p, _ := impl.ParseProgram(lines[0][3:] + "\n")
		d.Action.Code = append(d.Action.Code, p.Code...)
	}
	for ; len(lines) > 0; lines = lines[1:] {
		if m := askLine.FindStringSubmatch(lines[0]); m != nil {
			d.Links = append(d.Links, askLink(m[1], tellNumber(m[2])))
		} else if m := hasLine.FindStringSubmatch(lines[0]); m != nil {
			d.Links = append(d.Links, hasLink(m[1], m[2] == "1"))
		} else {
			break
		}
	}
	if len(lines) == 0 || lines[0] != "end" {
		return d, nil, false
	}
	return d, lines[1:], true
}

// tellRead is what ReadAccount must give.
func tellRead(s string) (impl.Account, bool) {
	var a impl.Account
	body, ok := strings.CutSuffix(s, "\n")
	lines := strings.Split(body, "\n")
	first := accountLine.FindStringSubmatch(lines[0])
	if !ok || len(s) > 300000 || first == nil {
		return impl.Account{}, false
	}
	for lines = lines[1:]; len(lines) > 0; {
		line, rest := lines[0], lines[1:]
		if m := sourceLine.FindStringSubmatch(line); m != nil {
			a.Deeds = append(a.Deeds, sourceDeed(m[1], tellText(m[2])))
		} else if m := noneLine.FindStringSubmatch(line); m != nil {
			a.Deeds = append(a.Deeds, noneDeed(m[1]))
		} else if m := targetLine.FindStringSubmatch(line); m != nil {
			d, behind, ok := tellTarget(impl.Deed{Name: m[1], Kind: 3, Code: tellNumber(m[2]), Text: tellText(m[3])}, rest)
			if !ok {
				return impl.Account{}, false
			}
			a.Deeds, rest = append(a.Deeds, d), behind
		} else {
			return impl.Account{}, false
		}
		lines = rest
	}
	if c, _ := tellCheck(a); c != 0 || len(a.Deeds) != tellNumber(first[1]) {
		return impl.Account{}, false
	}
	return a, true
}

// readsAs asks ReadAccount of one text what it must say, and gives whether it is a form.
func readsAs(t *testing.T, s string) bool {
	t.Helper()
	a, ok := impl.ReadAccount(s)
	want, wantOk := tellRead(s)
	if ok != wantOk || !sameAccount(a, want) {
		t.Fatalf("%.400q:\n%.300q %v\nwant %.300q %v", s, fmt.Sprint(a), ok, fmt.Sprint(want), wantOk)
	}
	if ok && impl.FormAccount(a) != s {
		t.Fatalf("%.400q is read, but is not what is written", s)
	}
	return ok
}

// noForm asks that a text is read as nothing.
func noForm(t *testing.T, what, s string) {
	t.Helper()
	if a, ok := impl.ReadAccount(s); ok || len(a.Deeds) != 0 {
		t.Errorf("%s is read: %.400q", what, s)
	}
}

// writes asks P12 of one valid account, and gives its form.
func writes(t *testing.T, a impl.Account) string {
	t.Helper()
	was := cloneAccount(a)
	s := impl.FormAccount(a)
	if want := tellForm(a); s != want || s == "" {
		t.Fatalf("%.400q\nwant %.400q", s, want)
	}
	if b, ok := impl.ReadAccount(s); !ok || !sameAccount(b, a) {
		t.Fatalf("%.400q\nis read as %.400q %v", s, fmt.Sprint(b), ok)
	}
	if !sameAccount(a, was) {
		t.Fatalf("%.300q: the argument has changed", fmt.Sprint(was))
	}
	return s
}

// unwritten asks that an account has no form, and no seal, and that what a form of it
// would be is read as nothing.
func unwritten(t *testing.T, a impl.Account) {
	t.Helper()
	if s, sealed := impl.FormAccount(a), impl.Seal(a, "key"); s != "" || sealed != "" {
		t.Errorf("%.300q: %.300q %.300q", fmt.Sprint(a), s, sealed)
	}
	noForm(t, "a form of what has none", tellForm(a))
}

const ledgerForm = `account 6
source conf "part x"
source part "P"
target mid 0 "P"
do lit "conf"
do ask
do word 0
do ask
do end
ask conf 0
ask part 1
end
none none
target opt 4 "none"
do lit "there"
do has
do lit "there2"
do has
do cat
do lit "none"
do ask
do end
has there 1
has there2 0
ask none 3
end
target top 5 "opt"
do lit "mid"
do ask
do lit "spare"
do has
do cat
do lit "opt"
do ask
do end
ask mid 2
has spare 1
ask opt 4
end
`

func TestFormOfTheLedger(t *testing.T) {
	a := makes(t, ledger(), "top")
	if s := writes(t, a); s != ledgerForm {
		t.Errorf("%s", s)
	}
	for _, name := range append(ledger().names(), "nothing") {
		writes(t, makes(t, ledger(), name))
	}
}

func TestFormOfEachDeed(t *testing.T) {
	name := strings.Repeat("~", impl.MaxName)
	code := func(code int, text string) impl.Deed {
		return impl.Deed{Name: "t", Kind: 3, Code: code, Text: text, Action: program(ins(impl.OpEnd))}
	}
	for want, a := range map[string]impl.Account{
		"account 1\nsource s \"\"\n":                                                                           account(sourceDeed("s", "")),
		"account 1\nsource s \" a  b \"\n":                                                                     account(sourceDeed("s", " a  b ")),
		"account 1\nsource s \"\\22\\5c\\0a\\00\\7f\\ff~\"\n":                                                  account(sourceDeed("s", "\"\\\n\x00\x7f\xff~")),
		"account 1\nsource \"\\ \"\\22\"\n":                                                                    account(sourceDeed("\"\\", "\"")),
		"account 1\nnone " + name + "\n":                                                                       account(noneDeed(name)),
		"account 1\nnone none\n":                                                                               account(noneDeed("none")),
		"account 1\ntarget t 0 \"\"\ndo end\nend\n":                                                            account(code(0, "")),
		"account 1\ntarget t 3 \"\"\ndo end\nend\n":                                                            account(code(3, "")),
		"account 1\ntarget t 5 \"a \\0a\"\ndo end\nend\n":                                                      account(code(5, "a \n")),
		"account 1\ntarget t 0 \"\"\ndo end\nhas t 1\nhas t 0\nhas 1 1\nend\n":                                 account(targetDeed("t", hasLink("t", true), hasLink("t", false), hasLink("1", true))),
		"account 2\nnone end\ntarget do 0 \"\"\ndo end\nask end 0\nask end 0\nhas end 0\nend\n":                account(noneDeed("end"), targetDeed("do", askLink("end", 0), askLink("end", 0), hasLink("end", false))),
		"account 3\nnone a\nsource b \"\"\ntarget c 0 \"\"\ndo end\nask a 0\nhas z 1\nask b 1\nask a 0\nend\n": account(noneDeed("a"), sourceDeed("b", ""), targetDeed("c", askLink("a", 0), hasLink("z", true), askLink("b", 1), askLink("a", 0))),
	} {
		if s := writes(t, a); s != want {
			t.Errorf("%q, want %q", s, want)
		}
		if !readsAs(t, want) {
			t.Errorf("%q is no form", want)
		}
	}
	// Each instruction and each byte.
	for _, r := range opRows {
		for _, n := range slices.Compact([]int{0, r.mostN() / 2, r.mostN()}) {
			in := ins(r.op, n)
			if r.kind == "text" {
				in.Text = allBytes()
			}
			d := targetDeed("t")
			d.Text, d.Action = allBytes(), program(in, in)
			writes(t, account(d))
		}
	}
	writes(t, account(sourceDeed("s", allBytes())))
}

func TestFormsAtTheLimits(t *testing.T) {
	name, text := strings.Repeat("!", impl.MaxName), strings.Repeat("\xff", impl.MaxText)
	full := targetDeed(name, slices.Repeat([]impl.Link{hasLink(name, true)}, impl.MaxLooks)...)
	full.Text, full.Action = text, program(slices.Repeat([]impl.Ins{ins(impl.OpJump, impl.MaxIns)}, impl.MaxIns)...)
	for _, a := range []impl.Account{
		account(full), account(sourceDeed(name, text)), wide(impl.MaxDeeds), chain(impl.MaxDepth), chain(impl.MaxDepth, sourceDeed("s", "")),
		makes(t, tower(impl.MaxDepth, "src"), "t000"), makes(t, tower(impl.MaxDepth, "none"), "t000"),
	} {
		writes(t, a)
	}
	unwritten(t, wide(impl.MaxDeeds+1))
	unwritten(t, chain(impl.MaxDepth+1))
	for _, change := range []func(d *impl.Deed){
		func(d *impl.Deed) { d.Links = append(d.Links, hasLink("z", true)) },
		func(d *impl.Deed) { d.Text += "x" },
		func(d *impl.Deed) { d.Name += "x" },
		func(d *impl.Deed) { d.Links[7].Name += "x" },
		func(d *impl.Deed) { d.Action.Code = append(d.Action.Code, ins(impl.OpEnd)) },
	} {
		a := cloneAccount(account(full))
		change(&a.Deeds[0])
		unwritten(t, a)
	}
}

// sized is a valid account whose form has the given number of bytes, some 300000.
func sized(t *testing.T, size int) impl.Account {
	var a impl.Account
	root := targetDeed("root")
	for i := range 50 {
		name := fmt.Sprintf("s%02d", i)
		a.Deeds = append(a.Deeds, sourceDeed(name, ""))
		root.Links = append(root.Links, askLink(name, i))
	}
	a.Deeds = append(a.Deeds, root)
	left := size - len(tellForm(a))
	for i := range 50 {
		d := &a.Deeds[i]
		n := min(left/3, impl.MaxText)
		if d.Text = strings.Repeat("\xff", n); n < impl.MaxText {
			d.Text += strings.Repeat("x", left-3*n)
		}
		left -= len(inQuotes(d.Text)) - 2
	}
	if len(tellForm(a)) != size {
		t.Fatalf("%d bytes", len(tellForm(a)))
	}
	return a
}

func TestSizeOfForms(t *testing.T) {
	for _, size := range []int{299998, 299999, 300000} {
		a := sized(t, size)
		if s := writes(t, a); len(s) != size || !readsAs(t, s) {
			t.Errorf("%d bytes, want %d", len(s), size)
		}
		if b, ok := impl.Unseal(impl.Seal(a, "key"), "key"); !ok || !sameAccount(a, b) {
			t.Errorf("%d bytes: the seal is not read", size)
		}
	}
	for _, size := range []int{300001, 300002, 301000} {
		a := sized(t, size)
		checks(t, a, 0, 0)
		unwritten(t, a)
	}
	// The one byte too many lies behind all deeds but the last, or in the last one.
	a := sized(t, 300000)
	a.Deeds[50].Text = "x"
	unwritten(t, a)
	a.Deeds[49].Text = a.Deeds[49].Text[:len(a.Deeds[49].Text)-1]
	writes(t, account(a.Deeds...))
	// Some hundred megabytes.
	action := program(slices.Repeat([]impl.Ins{literal(strings.Repeat("\xff", impl.MaxText))}, impl.MaxIns)...)
	huge := crowd(impl.MaxDeeds)
	for i := range huge.Deeds {
		huge.Deeds[i].Action = action
	}
	checks(t, huge, 0, 0)
	if s := impl.FormAccount(huge); s != "" {
		t.Errorf("%d bytes", len(s))
	}
	noForm(t, "a long text", strings.Repeat("none a\n", 1000000))
	noForm(t, "a long text", ledgerForm+strings.Repeat("\n", 300001-len(ledgerForm)))
	noForm(t, "a text of MaxForm bytes", ledgerForm+strings.Repeat("\n", 300000-len(ledgerForm)))
	noForm(t, "a text of MaxForm bytes", strings.Repeat("do end\n", 300000/7))
}

func TestFormsOfWhatIsNotValid(t *testing.T) {
	list, codes, _ := wrongAccounts()
	for i, a := range list {
		if codes[i] != 0 {
			unwritten(t, a)
		} else {
			writes(t, a)
		}
	}
	for _, d := range wrongDeeds() {
		// A form does not tell of what a link has that is of the other kind, nor of a source's Code.
		a := account(sourceDeed("s", ""), targetDeed("u", askLink("s", 0)), d)
		a.Deeds = append(a.Deeds, targetDeed("w", askLink("u", 1), askLink(d.Name, 2)))
		if s := impl.FormAccount(a); s != "" {
			t.Errorf("%.300q: %.300q", fmt.Sprint(a), s)
		}
		readsAs(t, tellForm(a))
	}
	unwritten(t, impl.Account{})
	unwritten(t, impl.Account{Deeds: []impl.Deed{}})
	unwritten(t, account(sourceDeed("s", ""), noneDeed("s")))
	unwritten(t, account(sourceDeed("s", ""), noneDeed("n")))
	unwritten(t, account(sourceDeed("s", ""), noneDeed("n"), targetDeed("t", askLink("n", 1), askLink("s", 0))))
	unwritten(t, account(targetDeed("t", askLink("t", 0))))
	for _, name := range wrongNames {
		unwritten(t, account(noneDeed(name)))
		unwritten(t, account(sourceDeed(name, "")))
		unwritten(t, account(targetDeed(name)))
		unwritten(t, account(targetDeed("t", hasLink(name, true))))
	}
}

// Each line of a form left out, put twice, put elsewhere, and without its newline.
func TestLinesOutOfTheirOrder(t *testing.T) {
	lines := strings.SplitAfter(strings.TrimSuffix(ledgerForm, "\n"), "\n")
	lines[len(lines)-1] += "\n"
	refused := 0
	see := func(list ...string) {
		if !readsAs(t, strings.Join(list, "")) {
			refused++
		}
	}
	for i, line := range lines {
		without := slices.Delete(slices.Clone(lines), i, i+1)
		see(without...)
		joined := slices.Clone(lines)
		joined[i] = strings.TrimSuffix(line, "\n")
		noForm(t, "a line without its newline", strings.Join(joined, ""))
		joined[i] += " "
		noForm(t, "a line with a space for its newline", strings.Join(joined, ""))
		for j := range lines {
			see(slices.Insert(slices.Clone(lines), j, line)...)
			if j < len(without) {
				see(slices.Insert(slices.Clone(without), j, line)...)
			}
			swapped := slices.Clone(lines)
			swapped[i], swapped[j] = swapped[j], swapped[i]
			see(swapped...)
		}
		for _, more := range []string{"\n", " \n", "end\n", "account 6\n", "none z\n", "x\n", "do\n", "do x\n", "do end\n", "ask none 3\n", "has z 0\n", "# \n", "\r\n"} {
			see(slices.Insert(slices.Clone(lines), i, more)...)
		}
		noForm(t, "the lines up to one", strings.Join(lines[:i], ""))
		see(lines[i:]...)
	}
	if refused < 2500 {
		t.Errorf("too few texts that are refused: %d", refused)
	}
	for _, s := range []string{"ask", "has", "do", "end", "account", "source", "none", "target", "account 0", "do end", "has z 1", "ask a 0"} {
		noForm(t, "one line", s+"\n")
		noForm(t, "one line", s)
		noForm(t, "one line behind", ledgerForm+s+"\n")
		noForm(t, "one line ahead", s+"\n"+ledgerForm)
		noForm(t, "one line alone", "account 1\n"+s+"\n")
	}
	noForm(t, "two forms", ledgerForm+ledgerForm)
	noForm(t, "nothing", "")
	noForm(t, "a newline", "\n")
}

// otherwise are writings of a number that are not its own, and of none that is in bounds.
func otherwise(number string) []string {
	return []string{
		"", "+" + number, "-" + number, "0" + number, "00" + number, "0x" + number, number + ".0", number + "e0", " " + number, number + " ", number + "\t", number + "_0", "_" + number, number + "\r",
		"x", "\"", "\"" + number + "\"", "-1", "4294967296", "9223372036854775807", "9223372036854775808", "-9223372036854775808", "18446744073709551616", "99999999999999999999999999", "\xd9\xa1",
	}
}

// Each number, word and text of a form, written otherwise.
func TestWordsWrittenOtherwise(t *testing.T) {
	if !readsAs(t, ledgerForm) {
		t.Fatal("no form")
	}
	change := func(old string, news ...string) {
		t.Helper()
		if !strings.Contains(ledgerForm, old) {
			t.Fatalf("%q is not there", old)
		}
		for _, s := range news {
			noForm(t, s+" for "+old, strings.Replace(ledgerForm, old, s, 1))
			noForm(t, s+" for each "+old, strings.ReplaceAll(ledgerForm, old, s))
		}
	}
	numbers := func(ahead, number, behind string, others ...string) {
		t.Helper()
		for _, other := range append(others, otherwise(number)...) {
			change(ahead+number+behind, ahead+other+behind)
		}
	}
	numbers("account ", "6", "\n", "0", "5", "7", "400", "401")
	numbers("ask part ", "1", "\n", "0", "2", "3", "5", "6", "400", "true")
	numbers("ask conf ", "0", "\n", "1", "2")
	numbers("ask none ", "3", "\n", "0", "4", "5")
	numbers("has there ", "1", "\n", "2", "3", "true", "11")
	numbers("has there2 ", "0", "\n", "2", "3", "false", "10")
	numbers("target opt ", "4", " \"none\"\n", "6", "7", "8", "9", "10")
	numbers("do word ", "0", "\n", "2001")
	change(" ", "  ", "\t", "", "\n", "\xa0")
	change("\n", "\r\n", "\n\n", " \n", "\r", "\x00", "")
	change("source part", "Source part", "SOURCE part", "sourc part", "sources part", "source  part", "source part x", "source", "source x", " source part", "target part", "none part")
	change("none none", "none none ", "none none \"\"", "none none 0", "none", "none ", "none  none", "None none", "none \"none\"", "source none", "target none")
	change("target mid", "Target mid", "target", "target x", "source mid", "target mid 0", "target mid \"P\"")
	change("0 \"P\"", "\"P\"", "0", "0 ", "0 P", "\"P\" 0", "0 \"P\" 0", "0 \"P\"\"\"", "0 'P'", "0 `P`")
	change("\nend\n", "\nend \n", "\nEnd\n", "\nend 0\n", "\nends\n", "\n.\n", "\n", "\nend\nend\n")
	change("do ask", "do", "do ", "do  ask", "do ask ", "do ask 0", "do Ask", "ask", "Do ask", "do lit", "do do ask")
	change("do lit \"conf\"", "do lit conf", "do lit", "do lit \"conf", "do lit conf\"", "do lit \"conf\" ", "do lit  \"conf\"", "do lit \"\\63onf\"", "lit \"conf\"")
	change("ask conf 0\nask part 1", "ask conf\nask part 1", "ask 0 conf\nask part 1", "ask conf 0 0\nask part 1", "ask part 1\nask conf 0", "ask conf 0 ask part 1", "Ask conf 0\nask part 1", "ask conf 0\nask conf 1", "ask conf 0")
	change("has spare 1", "has spare", "has", "has 1 spare", "has spare 1 1", "has  spare 1", "ask spare 1", "Has spare 1", "has spare  1", "has \"spare\" 2")
	for _, text := range []string{"\"part x", "part x\"", "part x", "\"part\nx\"", "\"part\tx\"", "\"part\\20x\"", "\"part \\78\"", "\"part \\7F\"", "\"part \\FF\"", "\"part \\n\"", "\"part \\\"\"", "\"part \\\\\"", "\"part \\\"", "\"part \\0\"",
		"\"part \xff\"", "\"part \x7f\"", "\"part \x00\"", "\"part \xc3\xa4\"", "\"part \"x\"", "\"\"part x\"\"", "'part x'", "\"part x\"x", "\"part \\0g\"", "\"part \\x00\"", "\"part \\u0000\""} {
		change("\"part x\"", text)
	}
	long := strings.Repeat("x", impl.MaxText)
	noForm(t, "a long text", strings.Replace(ledgerForm, "\"part x\"", "\"x"+long+"\"", 1))
	noForm(t, "a long text", strings.Replace(ledgerForm, "0 \"P\"", "0 \"x"+long+"\"", 1))
	noForm(t, "a long literal", strings.Replace(ledgerForm, "do lit \"conf\"", "do lit \"x"+long+"\"", 1))
	if !readsAs(t, strings.Replace(ledgerForm, "\"part x\"", "\""+long+"\"", 1)) || !readsAs(t, strings.Replace(ledgerForm, "do lit \"conf\"", "do lit \""+long+"\"", 1)) {
		t.Error("texts of MaxText bytes are not read")
	}
}

// varied is a valid account whose deeds have texts, codes and actions at random.
func varied(r *rand.Rand) impl.Account {
	a := cloneAccount(freed(r))
	for i := range a.Deeds {
		d := &a.Deeds[i]
		if d.Kind != 2 {
			d.Text = randomText(r, 12)
		}
		if d.Kind == 3 {
			d.Code, d.Action = r.Intn(6), randomProgram(r, 4)
		}
	}
	return a
}

// spoilLines changes the lines of a text at one or two places.
func spoilLines(r *rand.Rand, s string) string {
	lines := strings.SplitAfter(s, "\n")
	for range 1 + r.Intn(2) {
		i, j := r.Intn(len(lines)), r.Intn(len(lines))
		switch r.Intn(4) {
		case 0:
			lines[i] = ""
		case 1:
			lines[i] += lines[j]
		case 2:
			lines[i], lines[j] = lines[j], lines[i]
		case 3:
			lines[i] = lines[j]
		}
	}
	return strings.Join(lines, "")
}

func TestReadsWhatIsWrittenAlone(t *testing.T) {
	r := rand.New(rand.NewSource(13))
	seen := map[bool]int{}
	for range 6000 {
		a := varied(r)
		s := writes(t, a)
		if !readsAs(t, s) {
			t.Fatalf("%q is no form", s)
		}
		for range 4 {
			seen[readsAs(t, spoil(r, s))]++
			seen[readsAs(t, spoilLines(r, s))]++
		}
		if b := bent(r, a); tellsAll(b) {
			seen[readsAs(t, tellForm(b))]++
		}
	}
	if seen[true] < 2000 || seen[false] < 20000 {
		t.Errorf("too few texts that are forms, or that are none: %v", seen)
	}
}

// tellsAll says whether a form of the account tells all that it has.
func tellsAll(a impl.Account) bool {
	for _, d := range a.Deeds {
		for _, in := range d.Action.Code {
			if !impl.ValidProgram(program(in)) {
				return false
			}
		}
	}
	return true
}

func TestReadAccountsAreNewMemory(t *testing.T) {
	want, _ := impl.ReadAccount(ledgerForm)
	again, _ := impl.ReadAccount(ledgerForm)
	for at := range want.Deeds {
		a, _ := impl.ReadAccount(ledgerForm)
		b, _ := impl.Unseal(impl.Seal(a, "k"), "k")
		for _, c := range []impl.Account{a, b} {
			scribbleDeed(c.Deeds[at])
			left := cloneAccount(c)
			left.Deeds[at] = want.Deeds[at]
			if !sameAccount(left, want) {
				t.Errorf("deed %d shares memory with another", at)
			}
			for i := range c.Deeds[:cap(c.Deeds)] {
				c.Deeds[:cap(c.Deeds)][i] = impl.Deed{Name: "scribbled"}
			}
			if !sameAccount(again, want) {
				t.Errorf("deed %d shares memory with another answer", at)
			}
		}
	}
}
