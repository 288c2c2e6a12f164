package tests

import (
	"fmt"
	"math/rand"
	"regexp"
	"slices"
	"strings"
	"testing"

	"loop.example/kilndeed/impl"
)

// opRow is what the document's table says of an instruction.
type opRow struct {
	op   int
	word string
	kind string // "" no operand, "text", "n" up to MaxText, "place" up to MaxIns
}

var opRows = []opRow{
	{1, "lit", "text"}, {2, "cat", ""}, {3, "cut", "n"}, {4, "rest", "n"}, {5, "word", "n"},
	{6, "same", ""}, {7, "dup", ""}, {8, "swap", ""}, {9, "drop", ""}, {10, "jump", "place"},
	{11, "unless", "place"}, {12, "ask", ""}, {13, "has", ""}, {14, "fail", ""}, {15, "end", ""},
}

// mostN is the greatest N that the document allows.
func (r opRow) mostN() int {
	switch r.kind {
	case "n":
		return 2000
	case "place":
		return 200
	}
	return 0
}

func program(code ...impl.Ins) impl.Program { return impl.Program{Code: code} }

func literal(s string) impl.Ins { return impl.Ins{Op: impl.OpLit, Text: s} }

func ins(op int, n ...int) impl.Ins {
	if len(n) > 0 {
		return impl.Ins{Op: op, N: n[0]}
	}
	return impl.Ins{Op: op}
}

func sameProgram(p, q impl.Program) bool { return slices.Equal(p.Code, q.Code) }

// quoted writes a byte as the document says, by its number alone.
func quoted(b byte) string {
	if b < 32 || b > 126 || b == 34 || b == 92 {
		return fmt.Sprintf("\\%02x", b)
	}
	return string(rune(b))
}

func allBytes() string {
	var all []byte
	for b := range 256 {
		all = append(all, byte(b))
	}
	return string(all)
}

// roundTrip asks P1 of one valid program, and gives its text.
func roundTrip(t *testing.T, p impl.Program) string {
	t.Helper()
	if !impl.ValidProgram(p) {
		t.Fatalf("not valid: %d instructions, %.80q", len(p.Code), fmt.Sprint(p.Code))
	}
	s := impl.PrintProgram(p)
	q, f := impl.ParseProgram(s)
	if f != (impl.Fault{}) || !sameProgram(p, q) {
		t.Fatalf("parsed back from %.80q: %+v, %d instructions", s, f, len(q.Code))
	}
	return s
}

// refuse asks ParseProgram for a fault and for no program beside it.
func refuse(t *testing.T, src string, code, line int) {
	t.Helper()
	p, f := impl.ParseProgram(src)
	if f != (impl.Fault{Code: code, Line: line}) || len(p.Code) != 0 {
		t.Errorf("%.80q (%d bytes): %+v with %d instructions, want code %d line %d", src, len(src), f, len(p.Code), code, line)
	}
}

func TestEveryInstructionPrintedAndParsed(t *testing.T) {
	for _, r := range opRows {
		cases := map[string]impl.Ins{r.word: {Op: r.op}}
		if r.kind == "text" {
			cases = map[string]impl.Ins{
				r.word + ` ""`:          {Op: r.op},
				r.word + ` "a b"`:       {Op: r.op, Text: "a b"},
				r.word + ` "\22\5c\0a"`: {Op: r.op, Text: "\"\\\n"},
			}
		}
		if most := r.mostN(); most > 0 {
			cases = map[string]impl.Ins{}
			for _, n := range []int{0, 1, 9, 10, 100, most - 1, most} {
				cases[fmt.Sprintf("%s %d", r.word, n)] = impl.Ins{Op: r.op, N: n}
			}
		}
		for line, in := range cases {
			if s := roundTrip(t, program(in)); s != line+"\n" {
				t.Errorf("%+v printed %q, want %q", in, s, line)
			}
		}
	}
}

func TestWholeProgramPrinted(t *testing.T) {
	p := program(literal("a"), ins(impl.OpHas), ins(impl.OpUnless, 5), literal("y"), ins(impl.OpEnd), literal("n"), ins(impl.OpFail))
	want := "lit \"a\"\nhas\nunless 5\nlit \"y\"\nend\nlit \"n\"\nfail\n"
	if s := roundTrip(t, p); s != want {
		t.Errorf("%q", s)
	}
}

func TestQuotedBytesOfEveryValue(t *testing.T) {
	for b := range 256 {
		text := string([]byte{byte(b)})
		want := "lit \"" + quoted(byte(b)) + "\"\n"
		if s := roundTrip(t, program(literal(text))); s != want {
			t.Errorf("byte %d printed %q, want %q", b, s, want)
		}
		roundTrip(t, program(literal("x"+text+text+"41")))
		// Every other way to write the byte is read by nobody.
		for _, other := range []string{text, fmt.Sprintf("\\%02x", b), fmt.Sprintf("\\%02X", b), fmt.Sprintf("\\x%02x", b), "\\" + text} {
			if other != quoted(byte(b)) {
				refuse(t, "lit \""+other+"\"\n", 2, 0)
			}
		}
	}
	roundTrip(t, program(literal(allBytes())))
}

func TestWrongTexts(t *testing.T) {
	for _, line := range []string{
		"", " ", "x", "End", "END", "ends", "en", " end", "end ", "end\r", "end\t", "end 0", "end \"\"", "end end", "\tend", "end\x00",
		"cat 1", "same ", "ask \"a\"", "has a", ".", "1", "\"\"",
		"cut", "cut ", "cut  1", "cut 1 ", "cut 1 1", "cut\t1", "cut -1", "cut -0", "cut +1", "cut 01", "cut 00", "cut 1.0", "cut 1e1", "cut 0x1", "cut 1_0",
		"cut 2001", "cut 9999", "cut 10000", "cut \"1\"", "cut x", "cut 99999999999999999999", "cut 18446744073709551617", "cut 4294967296", "cut 1\r",
		"rest", "rest 2001", "rest 007", "word", "word 2001", "word +0",
		"jump", "jump ", "jump 201", "jump 2000", "jump -1", "jump 010", "unless", "unless 201", "unless 2000", "unless x",
		"lit", "lit ", "lit x", "lit \"", "lit \"x", "lit x\"", "lit  \"x\"", "lit \"x\" ", "lit \"x\"\"", "lit \"\"\"", "lit \"x\"y", "lit \"x\" \"y\"",
		"lit \"\\\"", "lit \"\\\"\"", "lit \"\\2\"", "lit \"\\22", "lit \"\\5\\5c\"", "lit \"\\0A\"", "lit \"\\0g\"", "lit \"\\n\"", "lit \"\\41\"", "lit \"\\20\"",
		"lit \"\\7e\"", "lit \"\t\"", "lit \"\x7f\"", "lit \"\xc3\xa4\"", "lit 'x'", "lit 0", "lit\"x\"",
	} {
		refuse(t, line+"\n", 2, 0)
		refuse(t, "end\n"+line+"\n", 2, 1)
		refuse(t, "end\n"+line+"\nend\nx\n", 2, 1)
		refuse(t, strings.Repeat("dup\n", 250)+line+"\nend\n", 2, 250)
	}
}

func TestLastLineWithoutNewline(t *testing.T) {
	for _, r := range opRows {
		line := r.word
		switch {
		case r.kind == "text":
			line += " \"x\""
		case r.kind != "":
			line += " 7"
		}
		if _, f := impl.ParseProgram(line + "\n"); f != (impl.Fault{}) {
			t.Errorf("%q: %+v", line, f)
		}
		refuse(t, line, 2, 0)
		refuse(t, line+"\n"+line, 2, 1)
		refuse(t, strings.Repeat(line+"\n", 200)+line, 2, 200)
	}
	refuse(t, "\n", 2, 0)
	refuse(t, "end\n ", 2, 1)
	refuse(t, "end\n\n", 2, 1)
	refuse(t, "\nend\n", 2, 0)
}

func TestSizeOfTexts(t *testing.T) {
	refuse(t, "", 1, 0)
	whole := strings.Repeat("end\n", impl.MaxProgram/4)
	if len(whole) != impl.MaxProgram {
		t.Fatal(len(whole))
	}
	refuse(t, whole, 3, 0)
	refuse(t, whole[:len(whole)-1], 2, impl.MaxProgram/4-1)
	refuse(t, whole+"\n", 1, 0)
	refuse(t, whole+"end\n", 1, 0)
	refuse(t, strings.Repeat("\n", impl.MaxProgram), 2, 0)
	refuse(t, strings.Repeat("\n", impl.MaxProgram+1), 1, 0)
	long := "lit \"" + strings.Repeat("a", impl.MaxProgram-7) + "\"\n"
	refuse(t, long, 2, 0)
	refuse(t, "x"+long, 1, 0)
}

func TestNumberOfInstructions(t *testing.T) {
	most := slices.Repeat([]impl.Ins{ins(impl.OpEnd)}, impl.MaxIns)
	roundTrip(t, program(most...))
	more := program(append(most, ins(impl.OpEnd))...)
	if impl.ValidProgram(more) || impl.PrintProgram(more) != "" {
		t.Error("one more than MaxIns is taken")
	}
	refuse(t, strings.Repeat("end\n", impl.MaxIns+1), 3, 0)
	refuse(t, strings.Repeat("end\n", impl.MaxIns+1)+"x\n", 2, impl.MaxIns+1)
	refuse(t, strings.Repeat("end\n", impl.MaxIns)+"x\n", 2, impl.MaxIns)
	// The greatest text that PrintProgram writes.
	greatest := slices.Repeat([]impl.Ins{literal(strings.Repeat("\xff", impl.MaxText))}, impl.MaxIns)
	if s := roundTrip(t, program(greatest...)); len(s) != 200*(4+1+6000+1+1) {
		t.Error(len(s))
	}
}

func TestSizeOfLiterals(t *testing.T) {
	for _, b := range []string{"a", "\n", "\\", "\xff"} {
		most, more := strings.Repeat(b, impl.MaxText), strings.Repeat(b, impl.MaxText+1)
		roundTrip(t, program(literal(most)))
		if p := program(literal(more)); impl.ValidProgram(p) || impl.PrintProgram(p) != "" {
			t.Errorf("%d bytes %q are taken", len(more), b)
		}
		written := strings.Repeat(quoted(b[0]), impl.MaxText+1)
		refuse(t, "end\nlit \""+written+"\"\nend\n", 2, 1)
	}
}

func wrongPrograms() []impl.Program {
	var list []impl.Program
	list = append(list, impl.Program{}, impl.Program{Code: []impl.Ins{}}, impl.Program{Code: make([]impl.Ins, 1)})
	for _, op := range []int{-1 << 63, -15, -1, 0, 16, 17, 257, 1<<63 - 1} {
		list = append(list, program(ins(op)), program(ins(impl.OpEnd), ins(op)))
	}
	for _, r := range opRows {
		for _, n := range []int{-1 << 63, -1, r.mostN() + 1, 1 << 32, 1<<63 - 1} {
			list = append(list, program(ins(r.op, n)), program(ins(impl.OpEnd), ins(r.op, n)))
		}
		if r.kind != "text" {
			list = append(list, program(impl.Ins{Op: r.op, Text: "a"}))
		}
	}
	list = append(list, program(impl.Ins{Op: impl.OpLit, Text: "a", N: 1}))
	list = append(list, program(slices.Repeat([]impl.Ins{ins(impl.OpEnd)}, 201)...))
	list = append(list, program(literal(strings.Repeat("a", 2001))))
	return list
}

func TestWrongPrograms(t *testing.T) {
	for i, p := range wrongPrograms() {
		if impl.ValidProgram(p) {
			t.Errorf("case %d is valid: %.80q", i, fmt.Sprint(p))
		}
		if s := impl.PrintProgram(p); s != "" {
			t.Errorf("case %d printed: %.80q", i, s)
		}
		for _, replies := range [][]impl.Reply{nil, {{Has: true}}} {
			if got := impl.Next(p, replies); got != (impl.Turn{Code: 9}) {
				t.Errorf("case %d runs: %+v", i, got)
			}
		}
	}
}

// The lines that are written for an instruction, said once more as an expression.
var lineForm = regexp.MustCompile(`^(?:cat|same|dup|swap|drop|ask|has|fail|end|` +
	`(?:cut|rest|word) (?:0|[1-9][0-9]{0,2}|1[0-9]{3}|2000)|` +
	`(?:jump|unless) (?:0|[1-9][0-9]?|1[0-9]{2}|200)|` +
	`lit "(?:[ !#-\[\]-~]|\\(?:[01][0-9a-f]|22|5c|7f|[89a-f][0-9a-f]))*")$`)

// faultByForm is what ParseProgram must say of a text of short lines.
func faultByForm(src string) impl.Fault {
	if src == "" || len(src) > 1500000 {
		return impl.Fault{Code: 1}
	}
	lines := strings.SplitAfter(src, "\n")
	if lines[len(lines)-1] == "" {
		lines = lines[:len(lines)-1]
	}
	for i, line := range lines {
		if body, ok := strings.CutSuffix(line, "\n"); !ok || !lineForm.MatchString(body) {
			return impl.Fault{Code: 2, Line: i}
		}
	}
	if len(lines) > 200 {
		return impl.Fault{Code: 3}
	}
	return impl.Fault{}
}

func randomText(r *rand.Rand, most int) string {
	b := make([]byte, r.Intn(most+1))
	for i := range b {
		switch r.Intn(3) {
		case 0:
			b[i] = "\"\\ \n0a"[r.Intn(6)]
		default:
			b[i] = byte(r.Intn(256))
		}
	}
	return string(b)
}

func randomProgram(r *rand.Rand, most int) impl.Program {
	var p impl.Program
	for range 1 + r.Intn(most) {
		row := opRows[r.Intn(len(opRows))]
		in := impl.Ins{Op: row.op}
		if row.kind == "text" {
			in.Text = randomText(r, 20)
		}
		if row.mostN() > 0 {
			in.N = []int{r.Intn(10), r.Intn(row.mostN() + 1), row.mostN()}[r.Intn(3)]
		}
		p.Code = append(p.Code, in)
	}
	return p
}

// spoil changes a text at some places, so that it is mostly still nearly one that is written.
func spoil(r *rand.Rand, s string) string {
	const bytes = "\n\n \"\\0129afcutjmplwsE+-\r\x7f\xff"
	for range 1 + r.Intn(2) {
		i := r.Intn(len(s) + 1)
		b := string(bytes[r.Intn(len(bytes))])
		switch j := min(len(s), i+1+r.Intn(2)); r.Intn(4) {
		case 0:
			s = s[:i] + b + s[i:]
		case 1:
			s = s[:i] + b + s[j:]
		case 2:
			s = s[:i] + s[j:]
		case 3:
			s = s[:i]
		}
	}
	return s
}

func TestParseReadsWhatPrintWritesAlone(t *testing.T) {
	r := rand.New(rand.NewSource(1))
	seen := map[int]int{}
	for i := range 20000 {
		most := 12
		if i%100 == 0 {
			most = 200
		}
		src := roundTrip(t, randomProgram(r, most))
		if want := faultByForm(src); want != (impl.Fault{}) {
			t.Fatalf("printed %q", src)
		}
		src = spoil(r, src)
		if i%50 == 0 {
			src = strings.Repeat("swap\n", 195+r.Intn(10)) + src
		}
		q, f := impl.ParseProgram(src)
		seen[f.Code]++
		if want := faultByForm(src); f != want {
			t.Fatalf("%q: %+v, want %+v", src, f, want)
		}
		if f == (impl.Fault{}) && impl.PrintProgram(q) != src || f != (impl.Fault{}) && len(q.Code) != 0 {
			t.Fatalf("%q read as %+v %+v", src, q, f)
		}
	}
	if seen[0] < 1000 || seen[1] < 10 || seen[2] < 1000 || seen[3] < 10 {
		t.Errorf("too little of some kind was tried: %v", seen)
	}
}

func TestProgramsAreNewMemory(t *testing.T) {
	src := "lit \"a\"\nask\nend\n"
	p, _ := impl.ParseProgram(src)
	q, _ := impl.ParseProgram(src)
	for i := range p.Code[:cap(p.Code)] {
		p.Code[:cap(p.Code)][i] = ins(impl.OpDup)
	}
	if s := impl.PrintProgram(q); s != src {
		t.Errorf("two answers share memory: %q", s)
	}
	if s, f := impl.ParseProgram(src); f != (impl.Fault{}) || impl.PrintProgram(s) != src {
		t.Errorf("an answer shares memory with a later one: %+v", s)
	}
}
