package tests

import (
	"fmt"
	"slices"
	"strings"
	"testing"

	"loop.example/kilndeed/impl"
)

// answers asks for a session's answers, one for each command, and asks P16 of it.
func answers(t *testing.T, text string, want ...string) {
	t.Helper()
	if got := impl.Session(text); got != linesOf(want) {
		t.Errorf("%.300q is answered\n%.600q, want\n%.600q", text, got, linesOf(want))
	}
	first(t, text)
}

func linesOf(list []string) string {
	var out strings.Builder
	for _, s := range list {
		out.WriteString(s + "\n")
	}
	return out.String()
}

// talk asks for a session that is written down: a line behind "> " is one of the
// session (">" alone an empty one), any other one is an answer.
func talk(t *testing.T, written string) {
	t.Helper()
	var text strings.Builder
	var want []string
	for line := range strings.Lines(strings.TrimLeft(written, "\n")) {
		if said, ok := strings.CutPrefix(line, ">"); ok {
			text.WriteString(strings.TrimPrefix(said, " "))
		} else {
			want = append(want, strings.TrimSpace(line))
		}
	}
	answers(t, text.String(), want...)
}

// puts are the commands that put all things of a model into an empty space, and their
// answers.
func puts(m model) (string, []string) {
	var text strings.Builder
	var codes []string
	for _, name := range m.names() {
		if th := m[name]; th.action == nil {
			fmt.Fprintf(&text, "source %s %s\n", name, inQuotes(th.text))
		} else {
			fmt.Fprintf(&text, "target %s\n%s.\n", name, impl.PrintProgram(program(th.action...)))
		}
		codes = append(codes, "code 0")
	}
	return text.String(), codes
}

// within asks for the answers to commands behind those that put a model's things.
func within(t *testing.T, m model, text string, want ...string) {
	t.Helper()
	before, codes := puts(m)
	answers(t, before+text, append(codes, want...)...)
}

func TestSessionOfTheDocument(t *testing.T) {
	const text = "source a \"x y\"\ntarget t\nlit \"a\"\nask\nword 1\nend\n.\nmake t\naudit\nnames\nkeep\nsource a \"x z\"\naudit\nmake t\nwhy 0\n"
	const want = "code 0\ncode 0\n0 \"y\" deeds 2\ncode 0 at 0\na t\nkept 1\ncode 0\ncode 2 at 0\n0 \"z\" deeds 2\na\n"
	for range 3 {
		if got := impl.Session(text); got != want {
			t.Errorf("%q, want %q", got, want)
		}
	}
	if got := impl.Session(strings.TrimSuffix(text, "\n")); got != want {
		t.Errorf("without the last newline: %q", got)
	}
	first(t, text)
}

func TestCommandsWithoutAnAccount(t *testing.T) {
	talk(t, `
> audit
bad
> names
bad
> sources
bad
> depends a
bad
> cut a
bad
> keep
bad
> why 0
bad
> cover a
-
> stale
-
> seal key
none
> drop a
code 4
> source a "x"
code 0
> target t
> lit "t"
> end
> .
code 0
> drop t
code 0
> audit
bad
> names
bad
> sources
bad
> depends a
bad
> cut a
bad
> keep
bad
> why 0
bad
> seal key
none
> make t
4 "t" deeds 1
> audit
code 0 at 0
`)
	// A make without an account leaves none.
	talk(t, `
> target c
> lit "c"
> ask
> .
code 0
> make c
6 "" circle c deeds 0
> audit
bad
> names
bad
> sources
bad
> depends c
bad
> cut c
bad
> keep
bad
> why 0
bad
> cover c
-
> stale
-
> seal key
none
`)
}

func TestCommandsWithAnAccount(t *testing.T) {
	talk(t, `
> source conf "part x"
code 0
> source part "P"
code 0
> target mid
> lit "conf"
> ask
> word 0
> ask
> end
> .
code 0
> target top
> lit "mid"
> ask
> lit "spare"
> has
> cat
> lit "none"
> has
> cat
> end
> .
code 0
> make top
0 "P00" deeds 4
> audit
code 0 at 0
> names
conf mid none part spare top
> sources
conf part
> depends conf
mid top
> depends mid
top
> depends spare
top
> depends top
-
> depends other
-
> keep
kept 1
> why 0
-
> cover spare
0
> cover other
-
> stale
-
> source spare "s"
code 0
> audit
code 3 at 3
> stale
0
> make top
0 "P10" deeds 4
> why 0
spare
> keep
kept 2
> cut mid
deeds 3
> names
conf mid part
> audit
code 0 at 0
> keep
kept 3
> cover spare
0 1
> cover part
0 1 2
> stale
0
> why 1
-
> why 0
-
> source part "Q"
code 0
> audit
code 2 at 1
> stale
0 1 2
> drop part
code 0
> audit
code 2 at 1
> make mid
4 "part" deeds 3
`)
}

// Commands that change the space leave the account as it is, and the other way round.
func TestSpaceAndAccountChangeApart(t *testing.T) {
	talk(t, `
> source a "1"
code 0
> make a
0 "1" deeds 1
> source a "2"
code 0
> names
a
> audit
code 2 at 0
> drop a
code 0
> audit
code 2 at 0
> target a
> lit "1"
> end
> .
code 0
> audit
code 2 at 0
> source a "1"
code 0
> audit
code 0 at 0
> keep
kept 1
> drop a
code 0
> make a
4 "a" deeds 1
> audit
code 0 at 0
> sources
-
> why 0
a
> keep
kept 2
> stale
0
> cover a
0 1
`)
}

func TestMakesOfEachEnd(t *testing.T) {
	m := tower(61, "src")
	m["all"] = thing{text: allBytes()}
	m["done"] = action(literal("d \"\n"), ins(impl.OpEnd))
	m["failed"] = action(literal("f"), ins(impl.OpFail))
	m["stuck"] = action(ins(impl.OpDrop))
	m["spent"] = action(ins(impl.OpJump, 0))
	m["missing"] = asks("none")
	m["below"] = asks("missing")
	m["self"] = asks("self")
	m["p"], m["q"], m["r"] = asks("src", "q"), asks("r"), asks("q")
	within(t, m, "make src\nmake all\nmake done\nmake failed\nmake stuck\nmake spent\nmake missing\nmake none\nmake below\n",
		`0 "x" deeds 1`, "0 "+inQuotes(allBytes())+" deeds 1", `0 "d \22\0a" deeds 1`, `1 "f" deeds 1`, `2 "0" deeds 1`, `3 "" deeds 1`,
		`4 "none" deeds 2`, `4 "none" deeds 1`, `5 "missing" deeds 3`)
	within(t, m, "make self\nmake p\nmake q\nmake r\nmake t000\nmake t001\nmake \x7f\nmake \xff\nmake "+strings.Repeat("n", 60)+"\nmake "+strings.Repeat("n", 61)+"\n",
		`6 "" circle self deeds 0`, `6 "" circle q r deeds 0`, `6 "" circle q r deeds 0`, `6 "" circle r q deeds 0`,
		`7 "t060" deeds 0`, `0 "x" deeds 61`, `9 "" deeds 0`, `9 "" deeds 0`, `4 "`+strings.Repeat("n", 60)+`" deeds 1`, `9 "" deeds 0`)
}

func TestMakesWithoutAnAccountWhileThereIsOne(t *testing.T) {
	m := tower(61, "src").with("p", asks("q")).with("q", asks("src", "p"))
	all := "audit\nnames\nsources\ndepends src\nkeep\nwhy 0\ncover src\nstale\n"
	for _, c := range []struct{ name, said string }{
		{"p", `6 "" circle p q deeds 0`}, {"t000", `7 "t060" deeds 0`}, {"\x01", `9 "" deeds 0`}, {strings.Repeat("n", 61), `9 "" deeds 0`},
	} {
		within(t, m, "make t060\nkeep\nmake "+c.name+"\n"+all+"cut src\nmake "+c.name+"\nnames\nwhy 0\n",
			`0 "x" deeds 2`, "kept 1", c.said, "code 0 at 0", "src t060", "src", "t060", "kept 2", "-", "0 1", "-",
			"deeds 1", c.said, "src", "-")
	}
}

func TestCutsInASession(t *testing.T) {
	within(t, ledger(), "make top\ncut spare\ncut there\ncut x\ncut \x7f\ncut "+strings.Repeat("n", 61)+"\nnames\ncut top\nnames\ncut opt\nnames\ncut mid\ncut none\nnames\nsources\ncut opt\naudit\n",
		`5 "opt" deeds 6`, "deeds 0", "deeds 0", "deeds 0", "deeds 0", "deeds 0", "conf mid none opt part spare there there2 top",
		"deeds 6", "conf mid none opt part spare there there2 top", "deeds 2", "none opt there there2", "deeds 0", "deeds 1", "none", "-", "deeds 0", "code 0 at 0")
	// What is too deep by itself is no account, though it is one of its deeds.
	within(t, twin(30, 31), "make root\nkeep\ncut h000\nwhy 0\ndepends h000\ncut h001\ndepends h001\ndepends h002\n",
		`0 "x" deeds 63`, "kept 1", "deeds 0", "-", "root", "deeds 61", "-", "h001")
}

func TestKeepsInASession(t *testing.T) {
	text, want := "make n\n", []string{`4 "n" deeds 1`}
	var numbers, even []string
	for i := range impl.MaxAccounts {
		text += fmt.Sprintf("source s \"%d\"\nmake s\nkeep\n", i%2)
		want = append(want, "code 0", fmt.Sprintf(`0 "%d" deeds 1`, i%2), fmt.Sprintf("kept %d", i+1))
		numbers = append(numbers, fmt.Sprint(i))
		if i%2 == 0 {
			even = append(even, fmt.Sprint(i))
		}
	}
	all, half := strings.Join(numbers, " "), strings.Join(even, " ")
	answers(t, text+"cover s\ncover n\nstale\nwhy 0\nwhy 1\nwhy 48\nwhy 49\nwhy 50\n", append(want, all, "-", half, "s", "-", "s", "-", "bad")...)
	// One more is not kept, and nothing of those kept is lost.
	answers(t, text+"keep\ncover s\nmake n\nkeep\nkeep\ncover s\ncover n\nwhy 49\nwhy 50\nstale\n",
		append(want, "bad", all, `4 "n" deeds 1`, "bad", "bad", all, "-", "-", "bad", half)...)
}

func TestAccountsThatAreKept(t *testing.T) {
	talk(t, `
> source s "1"
code 0
> target t
> lit "s"
> ask
> end
> .
code 0
> make s
0 "1" deeds 1
> why 0
bad
> keep
kept 1
> make t
0 "1" deeds 2
> keep
kept 2
> source s "2"
code 0
> why 0
-
> why 1
-
> why 2
bad
> make t
0 "2" deeds 2
> why 0
s
> why 1
s
> why 2
bad
> keep
kept 3
> why 2
-
> cover t
1 2
> cover s
0 1 2
> stale
0 1
> source s "1"
code 0
> stale
2
> cut s
deeds 1
> why 0
s
> why 2
-
`)
}

func TestSealsInASession(t *testing.T) {
	m := ledger()
	for _, name := range []string{"top", "conf", "opt", "nothing"} {
		a := makes(t, m, name)
		_, r := impl.Make(m.space(), name)
		for _, key := range []string{"k", "key", "\"", ".", "\x00", "\xff\r\t", "seal", strings.Repeat("k", 60), strings.Repeat("\xff", 60)} {
			within(t, m, "make "+name+"\nseal "+key+"\n",
				fmt.Sprintf("%d %s deeds %d", r.Code, inQuotes(r.Text), len(a.Deeds)), tellSeal(tellForm(a), key)[:16])
		}
		within(t, m, "seal k\nmake "+name+"\nseal "+strings.Repeat("k", 61)+"\nseal k k\nseal \nseal\n",
			"none", fmt.Sprintf("%d %s deeds %d", r.Code, inQuotes(r.Text), len(a.Deeds)), "none", "bad", "bad", "bad")
	}
	// A seal tells of the account, not of the space.
	within(t, m, "make conf\nseal k\ndrop conf\nseal k\nmake conf\nseal k\n",
		`0 "part x" deeds 1`, tellSeal("account 1\nsource conf \"part x\"\n", "k")[:16], "code 0", tellSeal("account 1\nsource conf \"part x\"\n", "k")[:16],
		`4 "conf" deeds 1`, tellSeal("account 1\nnone conf\n", "k")[:16])
}

// heavy is targets that give a text of 1990 bytes each, and a root that asks for all.
func heavy(n int) model {
	m := model{"s": {text: strings.Repeat("x", 1990)}}
	var root []impl.Ins
	for i := range n {
		name := fmt.Sprintf("t%03d", i)
		m[name] = asks("s")
		root = append(root, literal(name), ins(impl.OpAsk))
		if i < n-1 {
			root = append(root, ins(impl.OpDrop))
		}
	}
	m["root"] = action(append(root, ins(impl.OpEnd))...)
	return m
}

func TestSealsOfFormsThatAreTooLong(t *testing.T) {
	// The texts of 66 targets fit a form; those of their likes below each fit none.
	m := heavy(66)
	fits := makes(t, m, "root")
	text := inQuotes(strings.Repeat("x", 1990))
	within(t, m, "make root\nseal k\n", "0 "+text+" deeds 68", tellSeal(tellForm(fits), "k")[:16])
	for i := range 66 {
		m[fmt.Sprintf("u%03d", i)] = asks("s")
		m[fmt.Sprintf("v%03d", i)] = asks("s")
		m[fmt.Sprintf("t%03d", i)] = action(literal(fmt.Sprintf("u%03d", i)), ins(impl.OpAsk), ins(impl.OpDrop), literal(fmt.Sprintf("v%03d", i)), ins(impl.OpAsk), ins(impl.OpEnd))
	}
	within(t, m, "make root\nseal k\naudit\nkeep\ncut t000\nseal k\nwhy 0\n", "0 "+text+" deeds 200", "none", "code 0 at 0", "kept 1", "deeds 4",
		tellSeal(tellForm(makes(t, m, "t000")), "k")[:16], "-")
}

func TestSpacesInASession(t *testing.T) {
	text, want := puts(many(impl.MaxThings, thing{text: "x"}))
	answers(t, text+"source zz \"\"\ntarget zz\nend\n.\nmake zz\ndrop zz\n", append(slices.Clone(want), "code 3", "code 3", `4 "zz" deeds 1`, "code 4")...)
	name := many(impl.MaxThings, thing{}).names()[7]
	answers(t, text+"source "+name+" \"y\"\nmake "+name+"\ntarget "+name+"\nlit \"z\"\nend\n.\nmake "+name+"\ndrop "+name+"\nsource zz \"\"\nsource "+name+" \"\"\nmake zz\n",
		append(want, "code 0", `0 "y" deeds 1`, "code 0", `0 "z" deeds 1`, "code 0", "code 0", "code 3", `0 "" deeds 1`)...)
}

func TestNamesInASession(t *testing.T) {
	for _, name := range []string{"-", ".", "[", "]", "\"", "\"x\"", "\\", "source", "~", "!", strings.Repeat("n", 60)} {
		answers(t, "source "+name+" \"x\"\nmake "+name+"\nnames\nsources\ndepends "+name+"\ncut "+name+"\nkeep\nwhy 0\ncover "+name+"\ndrop "+name+"\nstale\n",
			"code 0", `0 "x" deeds 1`, name, name, "-", "deeds 1", "kept 1", "-", "0", "code 0", "0")
		answers(t, "target "+name+"\nlit \"x\"\nend\n.\nmake "+name+"\nnames\nsources\ndrop "+name+"\n", "code 0", `0 "x" deeds 1`, name, "-", "code 0")
	}
	for _, name := range []string{"\x7f", "\x1f", "\t", "\r", "\x00", "\xff", "n\x80", "é", strings.Repeat("n", 61)} {
		answers(t, "source "+name+" \"x\"\nsource "+name+" x\ntarget "+name+"\nend\n.\ntarget "+name+"\nnone\n.\ndrop "+name+"\nmake "+name+"\nmake n\ndepends "+name+"\ncut "+name+"\nkeep\ncover "+name+"\nnames\n",
			"code 2", "bad", "code 2", "no", "code 2", `9 "" deeds 0`, `4 "n" deeds 1`, "-", "deeds 0", "kept 1", "-", "n")
	}
}

func TestSourcesInASession(t *testing.T) {
	for _, text := range []string{"", " ", "x y", "  ", "\"", "\\", "\\\\", "\n", "\n.\n", "a\"b", allBytes(), strings.Repeat("x", 2000), strings.Repeat("\n", 2000)} {
		answers(t, "source s "+inQuotes(text)+"\nmake s\n", "code 0", "0 "+inQuotes(text)+" deeds 1")
		answers(t, "source s "+inQuotes(text)+"\nmake s", "code 0", "0 "+inQuotes(text)+" deeds 1")
	}
	for _, text := range []string{strings.Repeat("x", 2001), strings.Repeat("\n", 2001), strings.Repeat("x", 19900)} {
		answers(t, "source s \"was\"\nsource s "+inQuotes(text)+"\nmake s\n", "code 0", "code 2", `0 "was" deeds 1`)
	}
}

func TestTargetsInASession(t *testing.T) {
	// Whatever lines stand within an action, they are none of the session.
	talk(t, `
> target t
> source s "x"
> make t
> target u
> .
no
> make t
4 "t" deeds 1
> make s
4 "s" deeds 1
> target t
> lit "t"
> end
> .
code 0
> target t
> .
no
> target t
>
> .
no
> target t
> lit "t"
>  .
> .
no
> target t
> lit "u"
> end
> ..
> .
no
> target t
> lit "u"
> end
>
> .
no
> make t
0 "t" deeds 1
> .
bad
> source t "x"
code 0
> target t
> nothing
> .
no
> make t
0 "x" deeds 1
> target t
> lit "."
> end
> .
code 0
> make t
0 "." deeds 1
`)
	long := strings.Repeat("swap\n", impl.MaxIns)
	answers(t, "target t\n"+long+".\nmake t\ntarget u\nswap\n"+long+".\nmake u\n", "code 0", `2 "0" deeds 1`, "no", `4 "u" deeds 1`)
	answers(t, "target t\nlit \"x\"\nend\n.", "code 0")
	answers(t, "target t\nlit "+inQuotes(strings.Repeat("x", 2000))+"\nend\n.\nmake t", "code 0", "0 "+inQuotes(strings.Repeat("x", 2000))+" deeds 1")
	answers(t, "target t\nlit "+inQuotes(strings.Repeat("x", 2001))+"\nend\n.\nmake t", "no", `4 "t" deeds 1`)
}

func TestTargetsWithoutTheirEnd(t *testing.T) {
	for _, behind := range []string{"", "\n", "lit \"x\"\nend\n", "lit \"x\"\nend", "end\n. ", "end\n .\n", "end\n..\n", "end\n.\r\n", "end\n.\t\n", "end\n\".\"\n", "make t\nnames\n", "target t\nend\n"} {
		answers(t, "make s\ntarget t\n"+behind, `4 "s" deeds 1`, "bad")
		answers(t, "source s \"x\"\ntarget t\nend\n.\nmake s\ntarget t\n"+behind, "code 0", "code 0", `0 "x" deeds 1`, "bad")
	}
	answers(t, "target t", "bad")
	// A line that is no target's command takes no lines.
	for _, line := range []string{"target", "target ", "target  t", "target t ", " target t", "target t u", "target t \"x\"", "Target t", "targets t", "target\tt"} {
		answers(t, line+"\nmake t\n.\nmake s\n", "bad", `4 "t" deeds 1`, "bad", `4 "s" deeds 1`)
		answers(t, line+"\nmake t\n", "bad", `4 "t" deeds 1`)
	}
}

func TestSessionsAreApart(t *testing.T) {
	answers(t, "source s \"x\"\nmake s\nkeep\n", "code 0", `0 "x" deeds 1`, "kept 1")
	answers(t, "names\ncover s\nstale\nmake s\nkeep\n", "bad", "-", "-", `4 "s" deeds 1`, "kept 1")
}

func TestSizeOfSessions(t *testing.T) {
	x := func(n int) string { return strings.Repeat("x", n) }
	for _, c := range []struct {
		text string // with % for as many bytes as make it MaxSession
		want []string
	}{
		{"%", []string{"bad"}},
		{"%\n", []string{"bad"}},
		{"%\n\n", []string{"bad", "bad"}},
		{"make a\n%\nnames", []string{`4 "a" deeds 1`, "bad", "a"}},
		{"source s \"%\"\nmake s\n", []string{"code 2", `4 "s" deeds 1`}},
		{"make s\nsource % \"y\"\nsources", []string{`4 "s" deeds 1`, "code 2", "-"}},
		{"make s\nseal %\n", []string{`4 "s" deeds 1`, "none"}},
		{"target t\n%\n.\nmake t\n", []string{"no", `4 "t" deeds 1`}},
		{"target t\n%", []string{"bad"}},
	} {
		room := impl.MaxSession - len(c.text) + 1
		for less := range 3 {
			answers(t, strings.Replace(c.text, "%", x(room-less), 1), c.want...)
		}
		for more := 1; more < 4; more++ {
			answers(t, strings.Replace(c.text, "%", x(room+more), 1), "too long")
		}
	}
	// The last newline counts, too, and a text may be far too long.
	answers(t, x(impl.MaxSession)+"\n", "too long")
	answers(t, strings.Repeat("\n", impl.MaxSession+1), "too long")
	answers(t, "make a\n"+x(10*impl.MaxSession), "too long")
}

func TestNumberOfCommands(t *testing.T) {
	bads := func(n int) []string { return slices.Repeat([]string{"bad"}, n) }
	most := impl.MaxLines
	for _, line := range []string{"", ".", "x", "names", "target"} {
		answers(t, strings.Repeat(line+"\n", most-1), bads(most-1)...)
		answers(t, strings.Repeat(line+"\n", most), bads(most)...)
		answers(t, strings.Repeat(line+"\n", most+1), "too long")
		answers(t, strings.Repeat(line+"\n", most)+"x", "too long")
	}
	answers(t, strings.Repeat("\n", impl.MaxSession), "too long")
	// Answers that are not bad count the same.
	text, want := "make a\n", []string{`4 "a" deeds 1`}
	for range most - 1 {
		text, want = text+"names\n", append(want, "a")
	}
	answers(t, text, want...)
	answers(t, text+"\n", "too long")
	answers(t, text+"names", "too long")
	answers(t, text+"target t\nend\n.\n", "too long")
	answers(t, text+"target t\n", "too long")
	answers(t, "x\n"+text, "too long")
}

func TestLinesOfActionsAreNoCommands(t *testing.T) {
	bads := func(n int) []string { return slices.Repeat([]string{"bad"}, n) }
	most := impl.MaxLines
	whole := "target t\n" + strings.Repeat("swap\n", impl.MaxIns) + ".\n"
	answers(t, whole+strings.Repeat("x\n", most-1), append([]string{"code 0"}, bads(most-1)...)...)
	answers(t, strings.Repeat("x\n", most-1)+whole, append(bads(most-1), "code 0")...)
	answers(t, whole+strings.Repeat("x\n", most), "too long")
	answers(t, strings.Repeat("x\n", most)+whole, "too long")
	// Also those of one that is none, and of one without its end.
	lines := strings.Repeat("names\n", 2*most)
	answers(t, "target t\n"+lines+".\nmake t\n", "no", `4 "t" deeds 1`)
	answers(t, "make a\ntarget t\n"+lines, `4 "a" deeds 1`, "bad")
	answers(t, strings.Repeat("x\n", most-1)+"target t\n"+lines, bads(most)...)
	answers(t, strings.Repeat("x\n", most)+"target t\n"+lines, "too long")
	answers(t, strings.Repeat("target t\nlit \"x\"\nend\n.\n", most), slices.Repeat([]string{"code 0"}, most)...)
	answers(t, strings.Repeat("target t\nlit \"x\"\nend\n.\n", most+1), "too long")
}
