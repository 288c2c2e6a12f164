package tests

import (
	"fmt"
	"math/rand"
	"slices"
	"strconv"
	"strings"
	"testing"

	"loop.example/kilndeed/impl"
)

// wholeRun is a run told from its beginning to its end: where it stands at each
// look, what it was answered there, and its end.
type wholeRun struct {
	stops   []impl.Turn
	replies []impl.Reply
	end     impl.Turn
}

// needs is how many texts an instruction takes, or looks at, by its Op.
var needs = map[int]int{2: 2, 3: 1, 4: 1, 5: 1, 6: 2, 7: 1, 8: 2, 9: 1, 11: 1, 12: 1, 13: 1, 14: 1, 15: 1}

// tellRun runs a valid program once, in the document's words, with a reply for each look.
func tellRun(p impl.Program, reply func(look int) impl.Reply) wholeRun {
	var w wholeRun
	var stack []string
	place, steps := 0, 0
	over := func(code int, text string) wholeRun {
		w.end = impl.Turn{Over: true, Code: code, Text: text, Steps: steps}
		return w
	}
	for {
		stuck := strconv.Itoa(place)
		if place >= len(p.Code) {
			return over(2, stuck)
		}
		if steps+1 > 2000 {
			return over(3, "")
		}
		steps++
		in := p.Code[place]
		place++
		left := len(stack) - needs[in.Op]
		if left < 0 {
			return over(2, stuck)
		}
		took := slices.Clone(stack[left:])
		put := tellPut(in, took)
		switch in.Op {
		case 12, 13:
			if !nameByBytes(took[0]) {
				return over(2, stuck)
			}
			if len(w.stops)+1 > 200 {
				return over(3, "")
			}
			r := reply(len(w.stops))
			w.stops = append(w.stops, impl.Turn{Ask: in.Op == 12, Name: took[0], Steps: steps})
			w.replies = append(w.replies, r)
			if in.Op == 12 && !r.Has {
				return over(4, took[0])
			}
			if in.Op == 12 && r.Code != 0 {
				return over(5, took[0])
			}
			put = []string{tellReply(in.Op, r)}
		case 14:
			return over(1, took[0])
		case 15:
			return over(0, took[0])
		}
		if in.Op == 10 || in.Op == 11 && (took[0] == "" || took[0] == "0") {
			place = in.N
		}
		stack = append(slices.Clone(stack[:left]), put...)
		if len(stack) > 50 || slices.ContainsFunc(put, func(s string) bool { return len(s) > 2000 }) {
			return over(2, stuck)
		}
	}
}

// tellPut gives what an instruction that is no look puts for what it took, the lowest first.
func tellPut(in impl.Ins, took []string) []string {
	switch in.Op {
	case 1:
		return []string{in.Text}
	case 2:
		return []string{took[0] + took[1]}
	case 3:
		return []string{firstBytes(took[0], in.N)}
	case 4:
		return []string{strings.TrimPrefix(took[0], firstBytes(took[0], in.N))}
	case 5:
		return []string{tellWord(took[0], in.N)}
	case 6:
		return []string{map[bool]string{true: "1", false: "0"}[took[0] == took[1]]}
	case 7:
		return []string{took[0], took[0]}
	case 8:
		return []string{took[1], took[0]}
	}
	return nil
}

func tellReply(op int, r impl.Reply) string {
	if op == 12 {
		return r.Text
	}
	return map[bool]string{true: "1", false: "0"}[r.Has]
}

func firstBytes(s string, n int) string {
	if len(s) < n {
		return s
	}
	return s[:n]
}

func tellWord(s string, n int) string {
	var words []string
	for _, piece := range strings.Split(strings.ReplaceAll(s, "\n", " "), " ") {
		if piece != "" {
			words = append(words, piece)
		}
	}
	if n >= len(words) {
		return ""
	}
	return words[n]
}

func nameByBytes(s string) bool {
	for _, b := range []byte(s) {
		if b <= 32 || b >= 127 {
			return false
		}
	}
	return len(s) >= 1 && len(s) <= 60
}

// replay asks P2 of one run: with each beginning of its replies, with all of them, and with more.
func replay(t *testing.T, p impl.Program, w wholeRun) {
	t.Helper()
	for i, stop := range w.stops {
		if got := impl.Next(p, w.replies[:i]); got != stop {
			t.Fatalf("behind %d replies of %d: %.200q, want %.200q\n%.2000s", i, len(w.replies), fmt.Sprint(got), fmt.Sprint(stop), impl.PrintProgram(p))
		}
	}
	for left := range 3 {
		if len(w.replies)+left > impl.MaxLooks {
			break
		}
		more := append(slices.Clone(w.replies), make([]impl.Reply, left)...)
		if got := impl.Next(p, more); got != w.end {
			t.Fatalf("with all %d replies and %d more: %.200q, want %.200q\n%.2000s", len(w.replies), left, fmt.Sprint(got), fmt.Sprint(w.end), impl.PrintProgram(p))
		}
	}
}

// ends asks Next for one end of a run without looks, and the tale for the same.
func ends(t *testing.T, p impl.Program, code int, text string, steps int) {
	t.Helper()
	want := impl.Turn{Over: true, Code: code, Text: text, Steps: steps}
	if got := impl.Next(p, nil); got != want {
		t.Errorf("%.100q, want %.100q\n%.300s", fmt.Sprint(got), fmt.Sprint(want), impl.PrintProgram(p))
	}
	w := tellRun(p, func(int) impl.Reply { return impl.Reply{} })
	if w.end != want {
		t.Errorf("the tale has %.100q, want %.100q", fmt.Sprint(w.end), fmt.Sprint(want))
	}
}

func TestWhatEachInstructionDoes(t *testing.T) {
	end := ins(impl.OpEnd)
	for _, c := range []struct {
		code []impl.Ins
		want string
	}{
		{[]impl.Ins{literal("\x00x\xff")}, "\x00x\xff"},
		{[]impl.Ins{literal("a"), literal("b"), ins(impl.OpCat)}, "ab"},
		{[]impl.Ins{literal("abc"), ins(impl.OpCut, 0)}, ""},
		{[]impl.Ins{literal("abc"), ins(impl.OpCut, 2)}, "ab"},
		{[]impl.Ins{literal("abc"), ins(impl.OpCut, 3)}, "abc"},
		{[]impl.Ins{literal("abc"), ins(impl.OpCut, 2000)}, "abc"},
		{[]impl.Ins{literal("\xc3\xa4"), ins(impl.OpCut, 1)}, "\xc3"},
		{[]impl.Ins{literal("abc"), ins(impl.OpRest, 0)}, "abc"},
		{[]impl.Ins{literal("abc"), ins(impl.OpRest, 2)}, "c"},
		{[]impl.Ins{literal("abc"), ins(impl.OpRest, 3)}, ""},
		{[]impl.Ins{literal("abc"), ins(impl.OpRest, 2000)}, ""},
		{[]impl.Ins{literal(" a\n\nb  c"), ins(impl.OpWord, 0)}, "a"},
		{[]impl.Ins{literal(" a\n\nb  c"), ins(impl.OpWord, 1)}, "b"},
		{[]impl.Ins{literal(" a\n\nb  c"), ins(impl.OpWord, 2)}, "c"},
		{[]impl.Ins{literal(" a\n\nb  c"), ins(impl.OpWord, 3)}, ""},
		{[]impl.Ins{literal("a\tb\rc\x0bd\xc2\xa0e\x00"), ins(impl.OpWord, 0)}, "a\tb\rc\x0bd\xc2\xa0e\x00"},
		{[]impl.Ins{literal("\xff \x80"), ins(impl.OpWord, 1)}, "\x80"},
		{[]impl.Ins{literal(" \n "), ins(impl.OpWord, 0)}, ""},
		{[]impl.Ins{literal(""), ins(impl.OpWord, 2000)}, ""},
		{[]impl.Ins{literal(strings.Repeat("a ", 999) + "bc"), ins(impl.OpWord, 999)}, "bc"},
		{[]impl.Ins{literal("a"), literal("a"), ins(impl.OpSame)}, "1"},
		{[]impl.Ins{literal("a"), literal("b"), ins(impl.OpSame)}, "0"},
		{[]impl.Ins{literal("a"), literal("b"), ins(impl.OpDup), ins(impl.OpCat), ins(impl.OpCat)}, "abb"},
		{[]impl.Ins{literal("a"), literal("b"), ins(impl.OpSwap), ins(impl.OpCat)}, "ba"},
		{[]impl.Ins{literal("a"), literal("b"), ins(impl.OpDrop)}, "a"},
	} {
		ends(t, program(append(c.code, end)...), impl.Done, c.want, len(c.code)+1)
	}
	ends(t, program(ins(impl.OpJump, 2), end, literal("x"), end), impl.Done, "x", 3)
	for text, want := range map[string]string{"": "jumped", "0": "jumped", "1": "on", "00": "on", " ": "on", "\x00": "on", "a": "on"} {
		p := program(literal(text), ins(impl.OpUnless, 4), literal("on"), end, literal("jumped"), end)
		ends(t, p, impl.Done, want, 4)
	}
	ends(t, program(literal("why"), ins(impl.OpFail)), impl.Failed, "why", 2)
	ends(t, program(literal(""), ins(impl.OpFail)), impl.Failed, "", 2)
	ends(t, program(literal("a"), literal("b"), end), impl.Done, "b", 3)
}

func TestTooFewTexts(t *testing.T) {
	for op, most := range needs {
		for have := range most {
			code := append(slices.Repeat([]impl.Ins{literal("a")}, have), ins(op))
			ends(t, program(code...), impl.Stuck, strconv.Itoa(have), have+1)
		}
	}
}

func TestPlaceOfNoInstruction(t *testing.T) {
	ends(t, program(ins(impl.OpJump, 1)), impl.Stuck, "1", 1)
	ends(t, program(ins(impl.OpJump, 200)), impl.Stuck, "200", 1)
	ends(t, program(literal("a"), ins(impl.OpDrop)), impl.Stuck, "2", 2)
	ends(t, program(literal("0"), ins(impl.OpUnless, 77)), impl.Stuck, "77", 2)
	ends(t, program(literal("1"), ins(impl.OpUnless, 77)), impl.Stuck, "2", 2)
	full := slices.Repeat([]impl.Ins{ins(impl.OpJump, 200)}, 200)
	ends(t, program(full...), impl.Stuck, "200", 1)
	full[0] = ins(impl.OpJump, 199)
	ends(t, program(full...), impl.Stuck, "200", 2)
}

func TestStackLimit(t *testing.T) {
	full := slices.Repeat([]impl.Ins{literal("a")}, impl.MaxStack)
	with := func(more ...impl.Ins) impl.Program { return program(append(slices.Clone(full), more...)...) }
	ends(t, with(ins(impl.OpEnd)), impl.Done, "a", 51)
	ends(t, with(literal("b"), ins(impl.OpEnd)), impl.Stuck, "50", 51)
	ends(t, with(ins(impl.OpDup), ins(impl.OpEnd)), impl.Stuck, "50", 51)
	ends(t, with(ins(impl.OpDrop), ins(impl.OpDup), ins(impl.OpDup)), impl.Stuck, "52", 53)
	ends(t, with(ins(impl.OpSwap), ins(impl.OpSame), literal("b"), ins(impl.OpEnd)), impl.Done, "b", 54)
	ends(t, with(ins(impl.OpCut, 1), ins(impl.OpRest, 1), ins(impl.OpWord, 1), ins(impl.OpEnd)), impl.Done, "", 54)
	p := with(ins(impl.OpHas), ins(impl.OpAsk), ins(impl.OpEnd))
	replay(t, p, tellRun(p, func(int) impl.Reply { return impl.Reply{Has: true, Text: "x"} }))
	if got := impl.Next(p, []impl.Reply{{Has: true}, {Has: true, Text: "x"}}); got != (impl.Turn{Over: true, Text: "x", Steps: 53}) {
		t.Errorf("%+v", got)
	}
}

func TestTextLimit(t *testing.T) {
	long := strings.Repeat("a", impl.MaxText)
	end := ins(impl.OpEnd)
	ends(t, program(literal(long[1:]), literal("b"), ins(impl.OpCat), end), impl.Done, long[1:]+"b", 4)
	ends(t, program(literal(long), literal(""), ins(impl.OpCat), end), impl.Done, long, 4)
	ends(t, program(literal(long), literal("b"), ins(impl.OpCat), end), impl.Stuck, "2", 3)
	ends(t, program(literal("b"), literal(long), ins(impl.OpCat), end), impl.Stuck, "2", 3)
	ends(t, program(literal(long), ins(impl.OpDup), ins(impl.OpCat), ins(impl.OpCut, 1), end), impl.Stuck, "2", 3)
	ends(t, program(literal(long), ins(impl.OpCut, 2000), ins(impl.OpFail)), impl.Failed, long, 3)
	ends(t, program(literal(long), ins(impl.OpRest, 1999), end), impl.Done, "a", 3)
}

// after is a program that has made the given number of steps when it comes to the
// tail, with one empty text on the stack. The steps are at least 9.
func after(steps int, tail ...impl.Ins) impl.Program {
	rounds, spare := (steps-3)/4, (steps-3)%4
	code := []impl.Ins{literal(strings.Repeat("x", rounds))}
	for i := range spare {
		code = append(code, ins(impl.OpJump, i+2))
	}
	loop := len(code)
	code = append(code, ins(impl.OpDup), ins(impl.OpUnless, loop+4), ins(impl.OpRest, 1), ins(impl.OpJump, loop))
	return program(append(code, tail...)...)
}

func TestStepLimit(t *testing.T) {
	end := ins(impl.OpEnd)
	for steps := 1990; steps < 2000; steps++ {
		p := after(steps, end)
		place := strconv.Itoa(len(p.Code) - 1)
		ends(t, p, impl.Done, "", steps+1)
		ends(t, after(steps, ins(impl.OpFail)), impl.Failed, "", steps+1)
		ends(t, after(steps, ins(impl.OpCat)), impl.Stuck, place, steps+1)
		ends(t, after(steps, ins(impl.OpAsk)), impl.Stuck, place, steps+1)
		if got := impl.Next(after(steps-1, literal("n"), ins(impl.OpAsk)), nil); got != (impl.Turn{Ask: true, Name: "n", Steps: steps + 1}) {
			t.Errorf("look at step %d: %+v", steps+1, got)
		}
	}
	// The step ahead of the instruction's own Stuck, and of its look.
	for _, tail := range []impl.Ins{end, ins(impl.OpFail), ins(impl.OpCat), ins(impl.OpAsk), ins(impl.OpHas), ins(impl.OpJump, 200), literal("a")} {
		ends(t, after(2000, tail), impl.Spent, "", 2000)
	}
	ends(t, after(1999, literal("n"), ins(impl.OpAsk)), impl.Spent, "", 2000)
	ends(t, after(1999, ins(impl.OpDrop), end), impl.Spent, "", 2000)
	ends(t, program(ins(impl.OpJump, 0)), impl.Spent, "", 2000)
	// A look that is the last step there may be: what ends the run there, and what comes behind it.
	p := after(1998, literal("n"), ins(impl.OpAsk), end)
	for _, r := range []impl.Reply{{}, {Has: true, Code: 1}, {Has: true, Text: "x"}} {
		replay(t, p, tellRun(p, func(int) impl.Reply { return r }))
	}
	if got := impl.Next(p, []impl.Reply{{Has: true, Text: "x"}}); got != (impl.Turn{Over: true, Code: impl.Spent, Steps: 2000}) {
		t.Errorf("%+v", got)
	}
	// Where no instruction is there is no step that would be too many.
	ends(t, after(2000), impl.Stuck, strconv.Itoa(len(after(2000).Code)), 2000)
	ends(t, after(1999, ins(impl.OpJump, 200), end), impl.Stuck, "200", 2000)
}

func TestLookLimit(t *testing.T) {
	end := ins(impl.OpEnd)
	yes := slices.Repeat([]impl.Reply{{Has: true, Text: "n"}}, impl.MaxLooks)
	for _, look := range []int{impl.OpAsk, impl.OpHas} {
		p := program(literal("n"), ins(look), ins(impl.OpDrop), ins(impl.OpJump, 0))
		for i := range impl.MaxLooks {
			if got := impl.Next(p, yes[:i]); got != (impl.Turn{Ask: look == impl.OpAsk, Name: "n", Steps: 4*i + 2}) {
				t.Fatalf("behind %d replies: %+v", i, got)
			}
		}
		if got := impl.Next(p, yes); got != (impl.Turn{Over: true, Code: impl.Spent, Steps: 802}) {
			t.Errorf("one more than MaxLooks: %+v", got)
		}
	}
	// A program that looks until a reply is empty, then goes on with the tail, at place 8.
	looks := func(tail ...impl.Ins) impl.Program {
		code := []impl.Ins{literal("n"), ins(impl.OpAsk), ins(impl.OpDup), ins(impl.OpWord, 0), ins(impl.OpUnless, 8), ins(impl.OpDrop), ins(impl.OpJump, 0), ins(impl.OpEnd)}
		return program(append(code, tail...)...)
	}
	stops := func(n int) []impl.Reply {
		replies := slices.Clone(yes[:n])
		replies[n-1].Text = ""
		return replies
	}
	for _, c := range []struct {
		looks int
		tail  []impl.Ins
		want  impl.Turn
	}{
		{200, []impl.Ins{end}, impl.Turn{Over: true, Steps: 199*7 + 6}},
		{200, []impl.Ins{literal("m"), ins(impl.OpAsk)}, impl.Turn{Over: true, Code: impl.Spent, Steps: 199*7 + 7}},
		{200, []impl.Ins{literal("m"), ins(impl.OpHas)}, impl.Turn{Over: true, Code: impl.Spent, Steps: 199*7 + 7}},
		{199, []impl.Ins{literal("m"), ins(impl.OpHas)}, impl.Turn{Name: "m", Steps: 198*7 + 7}},
		{200, []impl.Ins{literal("a b"), ins(impl.OpAsk)}, impl.Turn{Over: true, Code: impl.Stuck, Text: "9", Steps: 199*7 + 7}},
		{200, []impl.Ins{ins(impl.OpHas)}, impl.Turn{Over: true, Code: impl.Stuck, Text: "8", Steps: 199*7 + 6}},
		{200, []impl.Ins{ins(impl.OpDrop), ins(impl.OpAsk)}, impl.Turn{Over: true, Code: impl.Stuck, Text: "9", Steps: 199*7 + 7}},
	} {
		if got := impl.Next(looks(c.tail...), stops(c.looks)); got != c.want {
			t.Errorf("behind %d looks: %+v, want %+v", c.looks, got, c.want)
		}
	}
}

func TestNames(t *testing.T) {
	for _, look := range []int{impl.OpAsk, impl.OpHas} {
		asks := func(name string) impl.Turn {
			return impl.Next(program(literal(name), ins(look), ins(impl.OpEnd)), nil)
		}
		stuck := impl.Turn{Over: true, Code: impl.Stuck, Text: "1", Steps: 2}
		for b := range 256 {
			for _, name := range []string{string([]byte{byte(b)}), "a" + string([]byte{byte(b)}), string([]byte{byte(b)}) + "a"} {
				want := impl.Turn{Ask: look == impl.OpAsk, Name: name, Steps: 2}
				if b < 33 || b > 126 {
					want = stuck
				}
				if got := asks(name); got != want {
					t.Errorf("%q: %+v, want %+v", name, got, want)
				}
			}
		}
		if got := asks(""); got != stuck {
			t.Errorf("the empty name: %+v", got)
		}
		long := strings.Repeat("n", impl.MaxName)
		if got := asks(long); got != (impl.Turn{Ask: look == impl.OpAsk, Name: long, Steps: 2}) {
			t.Errorf("MaxName: %+v", got)
		}
		if got := asks(long + "n"); got != stuck {
			t.Errorf("one more than MaxName: %+v", got)
		}
	}
}

func TestReplies(t *testing.T) {
	ask := program(literal("n"), ins(impl.OpAsk), ins(impl.OpEnd))
	has := program(literal("n"), ins(impl.OpHas), ins(impl.OpEnd))
	long := strings.Repeat("a", impl.MaxText)
	for code := 0; code <= 7; code++ {
		for _, text := range []string{"", "x", long} {
			want := impl.Turn{Over: true, Code: impl.Below, Text: "n", Steps: 2}
			if code == 0 {
				want = impl.Turn{Over: true, Text: text, Steps: 3}
			}
			if got := impl.Next(ask, []impl.Reply{{Has: true, Code: code, Text: text}}); got != want {
				t.Errorf("there with code %d: %.100q", code, fmt.Sprint(got))
			}
			if got := impl.Next(ask, []impl.Reply{{Code: code, Text: text}}); got != (impl.Turn{Over: true, Code: impl.Missing, Text: "n", Steps: 2}) {
				t.Errorf("not there, code %d: %.100q", code, fmt.Sprint(got))
			}
			if got := impl.Next(has, []impl.Reply{{Has: true, Code: code, Text: text}}); got != (impl.Turn{Over: true, Text: "1", Steps: 3}) {
				t.Errorf("has, code %d: %.100q", code, fmt.Sprint(got))
			}
			if got := impl.Next(has, []impl.Reply{{Code: code, Text: text}}); got != (impl.Turn{Over: true, Text: "0", Steps: 3}) {
				t.Errorf("has not, code %d: %.100q", code, fmt.Sprint(got))
			}
		}
	}
}

func TestRepliesThatAreLeftOver(t *testing.T) {
	p := program(literal("x"), ins(impl.OpEnd))
	want := impl.Turn{Over: true, Text: "x", Steps: 2}
	for n := range impl.MaxLooks + 1 {
		if got := impl.Next(p, make([]impl.Reply, n)); got != want {
			t.Fatalf("%d replies: %+v", n, got)
		}
	}
	ask := program(literal("n"), ins(impl.OpAsk), ins(impl.OpEnd))
	for first, want := range map[impl.Reply]impl.Turn{
		{}:                     {Over: true, Code: impl.Missing, Text: "n", Steps: 2},
		{Has: true, Code: 3}:   {Over: true, Code: impl.Below, Text: "n", Steps: 2},
		{Has: true, Text: "y"}: {Over: true, Text: "y", Steps: 3},
	} {
		if got := impl.Next(ask, []impl.Reply{first, {Has: true, Text: "z"}, {Code: 7}}); got != want {
			t.Errorf("%+v, want %+v", got, want)
		}
	}
}

func TestWrongReplies(t *testing.T) {
	wrong := impl.Turn{Code: 9}
	programs := []impl.Program{
		program(literal("x"), ins(impl.OpEnd)),
		program(literal("n"), ins(impl.OpAsk), ins(impl.OpEnd)),
		program(literal("n"), ins(impl.OpHas), ins(impl.OpEnd)),
		program(ins(impl.OpJump, 0)),
	}
	for i, p := range programs {
		for _, r := range []impl.Reply{
			{Code: -1}, {Has: true, Code: -1}, {Code: 8}, {Has: true, Code: 8}, {Has: true, Code: 9}, {Code: 1<<63 - 1}, {Code: -1 << 63},
			{Text: strings.Repeat("a", 2001)}, {Has: true, Text: strings.Repeat("a", 2001)},
		} {
			for at := range 3 {
				replies := make([]impl.Reply, 3)
				replies[at] = r
				if got := impl.Next(p, replies); got != wrong {
					t.Errorf("program %d, reply %d: %.100q", i, at, fmt.Sprint(got))
				}
			}
			last := make([]impl.Reply, 200)
			last[199] = r
			if got := impl.Next(p, last); got != wrong {
				t.Errorf("program %d, the last reply: %.100q", i, fmt.Sprint(got))
			}
		}
		if got := impl.Next(p, make([]impl.Reply, 201)); got != wrong {
			t.Errorf("program %d, more than MaxLooks replies: %+v", i, got)
		}
	}
}

// randomRun gives a program that mostly has texts enough, looks often and loops at times.
func randomRun(r *rand.Rand) impl.Program {
	var p impl.Program
	size := 1 + r.Intn(30)
	texts := []string{"a", "b", "0", "", "n n2", "x y\nz", "\xff", "1"}
	for range size {
		switch r.Intn(10) {
		case 0, 1, 2:
			p.Code = append(p.Code, literal(texts[r.Intn(len(texts))]))
		case 3, 4:
			p.Code = append(p.Code, literal([]string{"a", "b", "c"}[r.Intn(3)]), ins(12+r.Intn(2)))
		case 5:
			p.Code = append(p.Code, ins(10+r.Intn(2), r.Intn(size+4)))
		default:
			row := opRows[r.Intn(len(opRows))]
			in := ins(row.op)
			if row.mostN() > 0 {
				in.N = r.Intn(4)
			}
			p.Code = append(p.Code, in)
		}
	}
	return p
}

func randomReply(r *rand.Rand) impl.Reply {
	texts := []string{"a", "b c", "", "0", " n\nm ", strings.Repeat("w", 2000), strings.Repeat("v ", 700)}
	reply := impl.Reply{Has: r.Intn(8) > 0, Text: texts[r.Intn(len(texts))]}
	if r.Intn(15) == 0 {
		reply.Code = r.Intn(8)
	}
	return reply
}

func TestRunsReplayedWithEachBeginning(t *testing.T) {
	r := rand.New(rand.NewSource(2))
	seen := map[int]int{}
	most := 0
	for range 20000 {
		p := randomRun(r)
		w := tellRun(p, func(int) impl.Reply { return randomReply(r) })
		replay(t, p, w)
		seen[w.end.Code]++
		most = max(most, len(w.stops))
	}
	for code := impl.Done; code <= impl.Below; code++ {
		if seen[code] < 50 {
			t.Errorf("too few runs with end %d: %v", code, seen)
		}
	}
	if most < 10 {
		t.Errorf("no run with many looks: %d", most)
	}
}

func TestNextWritesNothingIntoItsArguments(t *testing.T) {
	code := []impl.Ins{literal("n"), ins(impl.OpAsk), ins(impl.OpEnd), literal("behind"), ins(impl.OpFail)}
	replies := []impl.Reply{{Has: true, Text: "y"}, {Has: true, Code: 5, Text: "behind"}}
	codeWas, repliesWas := slices.Clone(code), slices.Clone(replies)
	p := impl.Program{Code: code[:3]}
	impl.ValidProgram(p)
	impl.PrintProgram(p)
	for n := range 2 {
		impl.Next(p, replies[:n])
	}
	if !slices.Equal(code, codeWas) || !slices.Equal(replies, repliesWas) {
		t.Errorf("%+v %+v", code, replies)
	}
}
