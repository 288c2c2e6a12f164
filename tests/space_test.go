package tests

import (
	"fmt"
	"math/rand"
	"slices"
	"strings"
	"testing"

	"loop.example/kilndeed/impl"
)

// thing is what a model of a space has under a name: a text, or an action.
type thing struct {
	text   string
	action []impl.Ins
}

// model is a space told as what lies under each name.
type model map[string]thing

func (m model) space() impl.Space {
	var sp impl.Space
	for _, name := range m.names() {
		if a := m[name].action; a != nil {
			sp.Targets = append(sp.Targets, impl.Target{Name: name, Action: program(a...)})
		} else {
			sp.Sources = append(sp.Sources, impl.Source{Name: name, Text: m[name].text})
		}
	}
	return sp
}

func (m model) names() []string {
	var names []string
	for name := range m {
		names = append(names, name)
	}
	slices.Sort(names)
	return names
}

func (m model) with(name string, th thing) model {
	out := model{name: th}
	for n, other := range m {
		if n != name {
			out[n] = other
		}
	}
	return out
}

func (m model) without(name string) model {
	out := m.with(name, thing{})
	delete(out, name)
	return out
}

func sameSpace(a, b impl.Space) bool {
	return slices.Equal(a.Sources, b.Sources) && slices.EqualFunc(a.Targets, b.Targets, func(x, y impl.Target) bool {
		return x.Name == y.Name && sameProgram(x.Action, y.Action)
	})
}

func cloneSpace(sp impl.Space) impl.Space {
	out := impl.Space{Sources: slices.Clone(sp.Sources)}
	for _, x := range sp.Targets {
		out.Targets = append(out.Targets, impl.Target{Name: x.Name, Action: program(slices.Clone(x.Action.Code)...)})
	}
	return out
}

// scribble writes over all memory of a space that its lists reach, spare room included.
func scribble(sp impl.Space) {
	for _, x := range sp.Targets[:cap(sp.Targets)] {
		code := x.Action.Code[:cap(x.Action.Code)]
		for i := range code {
			code[i] = impl.Ins{Op: 99, Text: "scribbled", N: -1}
		}
	}
	sources, targets := sp.Sources[:cap(sp.Sources)], sp.Targets[:cap(sp.Targets)]
	for i := range sources {
		sources[i] = impl.Source{Name: "scribbled", Text: "scribbled"}
	}
	for i := range targets {
		targets[i] = impl.Target{Name: "scribbled"}
	}
}

// many are sources, or targets, under the given number of names from m000 on.
func many(n int, th thing) model {
	m := model{}
	for i := range n {
		m[fmt.Sprintf("m%03d", i)] = th
	}
	return m
}

var endless = thing{action: []impl.Ins{ins(impl.OpJump, 0)}}

// edited asks P3 of one edit: its code, the whole space behind it, and that a
// wrong one gives nothing.
func edited(t *testing.T, what string, got impl.Space, code int, want model, wantCode int) {
	t.Helper()
	if wantCode != 0 {
		want = nil
	}
	if code != wantCode || !sameSpace(got, want.space()) {
		t.Fatalf("%s: code %d, %.300q; want %d", what, code, fmt.Sprint(got), wantCode)
	}
	if c := impl.CheckSpace(got); c != 0 {
		t.Fatalf("%s: not valid: %d", what, c)
	}
}

func putSource(t *testing.T, m model, name, text string, code int) model {
	t.Helper()
	want := m.with(name, thing{text: text})
	got, c := impl.PutSource(m.space(), name, text)
	edited(t, fmt.Sprintf("source %.70q %.70q", name, text), got, c, want, code)
	return want
}

func putTarget(t *testing.T, m model, name string, action []impl.Ins, code int) model {
	t.Helper()
	want := m.with(name, thing{action: action})
	got, c := impl.PutTarget(m.space(), name, program(action...))
	edited(t, fmt.Sprintf("target %.70q", name), got, c, want, code)
	return want
}

func drop(t *testing.T, m model, name string, code int) model {
	t.Helper()
	want := m.without(name)
	got, c := impl.Drop(m.space(), name)
	edited(t, fmt.Sprintf("drop %.70q", name), got, c, want, code)
	return want
}

var wrongNames = []string{
	"", " ", "a b", "a\n", "\x7f", "\x00", "a\x80", "\xc3\xa4", "\xff", strings.Repeat("n", 61), strings.Repeat("n", 100000),
}

// wrongSpace has the faults of the numbers that are set, and no other.
func wrongSpace(fault [8]bool) impl.Space {
	m := model{"a": {text: "x"}, "b": {text: strings.Repeat("x", 2000)}, "t": endless, "u": endless}
	if fault[1] {
		for name, th := range many(197, thing{}) {
			m[name] = th
		}
	}
	sp := m.space()
	if fault[5] {
		sp.Sources = append(sp.Sources, impl.Source{Name: "p"})
		sp.Targets = append([]impl.Target{{Name: "p", Action: program(ins(impl.OpEnd))}}, sp.Targets...)
	}
	if fault[6] {
		sp.Sources = append(sp.Sources, impl.Source{Name: "q", Text: strings.Repeat("x", 2001)})
	}
	if fault[7] {
		sp.Targets = append(sp.Targets, impl.Target{Name: "w"})
	}
	if fault[2] {
		sp.Sources = append([]impl.Source{{Name: ""}}, sp.Sources...)
	}
	if fault[3] {
		sp.Sources = append(sp.Sources, impl.Source{Name: "a0"})
	}
	if fault[4] {
		sp.Targets = append(sp.Targets, impl.Target{Name: "t0", Action: program(ins(impl.OpEnd))})
	}
	return sp
}

// wrongSpaces are all that wrongSpace gives, each with the code that it must have.
func wrongSpaces() ([]impl.Space, []int) {
	var spaces []impl.Space
	var codes []int
	for set := range 128 {
		var fault [8]bool
		code := 0
		for f := 7; f >= 1; f-- {
			if fault[f] = set>>(f-1)&1 == 1; fault[f] {
				code = f
			}
		}
		spaces, codes = append(spaces, wrongSpace(fault)), append(codes, code)
	}
	return spaces, codes
}

func TestSpaceCodesInTheirOrder(t *testing.T) {
	spaces, codes := wrongSpaces()
	for i, sp := range spaces {
		was := cloneSpace(sp)
		if c := impl.CheckSpace(sp); c != codes[i] {
			t.Errorf("faults %07b: %d, want %d", i, c, codes[i])
		}
		if codes[i] == 0 {
			continue
		}
		for _, name := range []string{"a", "t", "new", "", "a b"} {
			if out, c := impl.PutSource(sp, name, "x"); c != 1 || !sameSpace(out, impl.Space{}) {
				t.Errorf("faults %07b: PutSource %q: %d", i, name, c)
			}
			if out, c := impl.PutTarget(sp, name, program(ins(impl.OpEnd))); c != 1 || !sameSpace(out, impl.Space{}) {
				t.Errorf("faults %07b: PutTarget %q: %d", i, name, c)
			}
			if out, c := impl.Drop(sp, name); c != 1 || !sameSpace(out, impl.Space{}) {
				t.Errorf("faults %07b: Drop %q: %d", i, name, c)
			}
			if r := impl.Clean(sp, name); !sameResult(r, impl.Result{Code: 9}) {
				t.Errorf("faults %07b: Clean %q: %+v", i, name, r)
			}
		}
		if !sameSpace(sp, was) {
			t.Errorf("faults %07b: the argument has changed", i)
		}
	}
}

func TestSpaceNumberOfThings(t *testing.T) {
	for sources := range 202 {
		m := many(sources, thing{})
		for i := range 201 - sources {
			m[fmt.Sprintf("t%03d", i)] = endless
		}
		want := 1
		for range 2 {
			if c := impl.CheckSpace(m.space()); c != want {
				t.Errorf("%d things, %d sources: %d, want %d", len(m), sources, c, want)
			}
			m = m.without(m.names()[0])
			want = 0
		}
	}
	for _, sp := range []impl.Space{{}, {Sources: []impl.Source{}, Targets: []impl.Target{}}} {
		if c := impl.CheckSpace(sp); c != 0 {
			t.Errorf("the empty space: %d", c)
		}
	}
	if c := impl.CheckSpace(impl.Space{Sources: make([]impl.Source, 150), Targets: make([]impl.Target, 51)}); c != 1 {
		t.Errorf("too many of things that are wrong: %d", c)
	}
}

func TestSpaceNamesAndTexts(t *testing.T) {
	code := program(ins(impl.OpEnd))
	check := func(want int, sp impl.Space) {
		t.Helper()
		if c := impl.CheckSpace(sp); c != want {
			t.Errorf("%.200q: %d, want %d", fmt.Sprint(sp), c, want)
		}
	}
	for _, name := range wrongNames {
		check(2, impl.Space{Sources: []impl.Source{{Name: name}}})
		check(2, impl.Space{Targets: []impl.Target{{Name: name, Action: code}}})
		check(2, impl.Space{Sources: []impl.Source{{Name: "c"}, {Name: "b"}, {Name: name}}})
		check(2, impl.Space{Sources: []impl.Source{{Name: "c"}, {Name: "b"}}, Targets: []impl.Target{{Name: "b"}, {Name: name}}})
	}
	for _, name := range []string{"!", "~", "a", "\"", "\\", "-", strings.Repeat("n", 60)} {
		check(0, impl.Space{Sources: []impl.Source{{Name: name}}})
		check(0, impl.Space{Targets: []impl.Target{{Name: name, Action: code}}})
	}
	for _, text := range []string{"", allBytes(), strings.Repeat("\x00", 2000)} {
		check(0, impl.Space{Sources: []impl.Source{{Name: "a", Text: text}}})
	}
	check(6, impl.Space{Sources: []impl.Source{{Name: "a", Text: strings.Repeat("\x00", 2001)}}})
	check(6, impl.Space{Sources: []impl.Source{{Name: "a"}, {Name: "b", Text: strings.Repeat("y", 5000)}, {Name: "c"}}})
	for _, p := range wrongPrograms() {
		check(7, impl.Space{Targets: []impl.Target{{Name: "a", Action: p}}})
		check(7, impl.Space{Targets: []impl.Target{{Name: "a", Action: code}, {Name: "b", Action: p}, {Name: "c", Action: code}}})
	}
}

func TestSpaceOrder(t *testing.T) {
	code := program(ins(impl.OpEnd))
	for _, c := range []struct {
		names  []string
		rising bool
	}{
		{[]string{"a"}, true}, {[]string{"a", "b"}, true}, {[]string{"a", "aa"}, true}, {[]string{"B", "a"}, true}, {[]string{"a", "a!", "aa", "b"}, true},
		{[]string{"10", "9"}, true}, {[]string{"!", "~"}, true}, {[]string{strings.Repeat("n", 59), strings.Repeat("n", 60)}, true},
		{[]string{"a", "a"}, false}, {[]string{"b", "a"}, false}, {[]string{"aa", "a"}, false}, {[]string{"a", "B"}, false}, {[]string{"9", "10"}, false},
		{[]string{"a", "b", "b"}, false}, {[]string{"a", "c", "b", "d"}, false}, {[]string{"b", "c", "a"}, false},
	} {
		var sources, targets impl.Space
		for _, name := range c.names {
			sources.Sources = append(sources.Sources, impl.Source{Name: name})
			targets.Targets = append(targets.Targets, impl.Target{Name: name, Action: code})
		}
		want3, want4 := 3, 4
		if c.rising {
			want3, want4 = 0, 0
		}
		if got := impl.CheckSpace(sources); got != want3 {
			t.Errorf("sources %q: %d", c.names, got)
		}
		if got := impl.CheckSpace(targets); got != want4 {
			t.Errorf("targets %q: %d", c.names, got)
		}
	}
	// A name that is shared, at every place of both lists, and one that is only nearly so.
	for shared := range 5 {
		names := []string{"a", "c", "e", "g", "i"}
		var sp impl.Space
		for i, name := range names {
			sp.Sources = append(sp.Sources, impl.Source{Name: name})
			if i != shared {
				name += "0"
			}
			sp.Targets = append(sp.Targets, impl.Target{Name: name, Action: code})
		}
		if got := impl.CheckSpace(sp); got != 5 {
			t.Errorf("shared %s: %d", names[shared], got)
		}
		sp.Targets[shared].Name += "0"
		if got := impl.CheckSpace(sp); got != 0 {
			t.Errorf("shared none: %d", got)
		}
	}
}

func TestEditsOneByOne(t *testing.T) {
	m := putSource(t, model{}, "b", "two", 0)
	m = putSource(t, m, "a", "", 0)
	m = putSource(t, m, "c", "three", 0)
	m = putSource(t, m, "b", "other", 0)
	m = putTarget(t, m, "b", []impl.Ins{literal("a"), ins(impl.OpAsk), ins(impl.OpEnd)}, 0)
	m = putTarget(t, m, "bb", endless.action, 0)
	m = putTarget(t, m, "aa", endless.action, 0)
	m = putTarget(t, m, "b", endless.action, 0)
	m = putSource(t, m, "aa", "again a source", 0)
	m = drop(t, m, "b", 0)
	drop(t, m, "b", 4)
	m = drop(t, m, "aa", 0)
	m = drop(t, m, "bb", 0)
	m = drop(t, m, "c", 0)
	m = drop(t, m, "a", 0)
	drop(t, m, "a", 4)
	drop(t, m, "scribbled", 4)
}

func TestEditsAtTheLimits(t *testing.T) {
	m := model{"a": {text: "x"}, "t": endless}
	for _, name := range wrongNames {
		putSource(t, m, name, "x", 2)
		putTarget(t, m, name, endless.action, 2)
		drop(t, m, name, 2)
	}
	name := strings.Repeat("~", impl.MaxName)
	putTarget(t, putSource(t, m, name, strings.Repeat("\xff", impl.MaxText), 0), name, endless.action, 0)
	putSource(t, m, "n", strings.Repeat("\xff", impl.MaxText+1), 2)
	putSource(t, m, "a", strings.Repeat("\xff", impl.MaxText+1), 2)
	for _, p := range wrongPrograms() {
		for _, name := range []string{"n", "t", ""} {
			got, c := impl.PutTarget(m.space(), name, p)
			edited(t, "wrong action", got, c, nil, 2)
		}
	}
	greatest := slices.Repeat([]impl.Ins{literal(strings.Repeat("\xff", impl.MaxText))}, impl.MaxIns)
	putTarget(t, m, "n", greatest, 0)
}

func TestEditsOfAFullSpace(t *testing.T) {
	for _, th := range []thing{{text: "x"}, endless} {
		full := many(impl.MaxThings, th)
		for _, name := range []string{"m", "m000a", "m0990", "z"} {
			putSource(t, full, name, "x", 3)
			putTarget(t, full, name, endless.action, 3)
			drop(t, full, name, 4)
		}
		// The name and the content are looked at first.
		putSource(t, full, "", "x", 2)
		putSource(t, full, "z", strings.Repeat("x", 2001), 2)
		putTarget(t, full, "a b", endless.action, 2)
		putTarget(t, full, "z", nil, 2)
		drop(t, full, "", 2)
		// What takes the place of another thing is not one more.
		for _, name := range []string{"m000", "m100", "m199"} {
			putSource(t, full, name, "other", 0)
			putTarget(t, full, name, []impl.Ins{ins(impl.OpEnd)}, 0)
			less := drop(t, full, name, 0)
			putSource(t, less, "z", "x", 0)
			putTarget(t, less, "a", endless.action, 0)
			putSource(t, putSource(t, less, "z", "x", 0), "y", "x", 3)
		}
	}
}

func TestEditsAtRandom(t *testing.T) {
	r := rand.New(rand.NewSource(3))
	names := []string{"a", "aa", "b", "B", "b!", "c", "~", strings.Repeat("c", 60), "", "x y"}
	for range 300 {
		m := model{}
		for range 40 {
			name := names[r.Intn(len(names))]
			code := 0
			if name == "" || name == "x y" {
				code = 2
			}
			var next model
			switch r.Intn(3) {
			case 0:
				next = putSource(t, m, name, randomText(r, 5), code)
			case 1:
				next = putTarget(t, m, name, randomProgram(r, 4).Code, code)
			default:
				if _, there := m[name]; !there && code == 0 {
					code = 4
				}
				next = drop(t, m, name, code)
			}
			if code == 0 {
				m = next
			}
		}
	}
}

// spareSpace is a valid space with room behind its lists, in which something stands.
func spareSpace() impl.Space {
	code := append(make([]impl.Ins, 0, 8), ins(impl.OpJump, 0), ins(impl.OpEnd), ins(98), ins(97))
	sources := append(make([]impl.Source, 0, 8), impl.Source{Name: "a", Text: "x"}, impl.Source{Name: "c", Text: "y"}, impl.Source{Name: "behind"})
	targets := append(make([]impl.Target, 0, 8), impl.Target{Name: "b", Action: impl.Program{Code: code[:2]}}, impl.Target{Name: "d", Action: impl.Program{Code: code[:2]}}, impl.Target{Name: "behind"})
	return impl.Space{Sources: sources[:2], Targets: targets[:2]}
}

// wholeSpace is a copy of a space with all that stands behind its lists.
func wholeSpace(sp impl.Space) impl.Space {
	sp.Sources, sp.Targets = sp.Sources[:cap(sp.Sources)], slices.Clone(sp.Targets[:cap(sp.Targets)])
	for i, x := range sp.Targets {
		sp.Targets[i].Action.Code = x.Action.Code[:cap(x.Action.Code)]
	}
	return cloneSpace(sp)
}

func TestEditsShareNoMemory(t *testing.T) {
	code := append(make([]impl.Ins, 0, 4), ins(impl.OpDup), ins(impl.OpEnd), ins(96))
	edits := map[string]func(sp impl.Space) (impl.Space, int){}
	for _, name := range []string{"0", "a", "b", "c", "d", "e"} {
		edits["source "+name] = func(sp impl.Space) (impl.Space, int) { return impl.PutSource(sp, name, "new") }
		edits["target "+name] = func(sp impl.Space) (impl.Space, int) { return impl.PutTarget(sp, name, impl.Program{Code: code[:2]}) }
		if name != "0" && name != "e" {
			edits["drop "+name] = func(sp impl.Space) (impl.Space, int) { return impl.Drop(sp, name) }
		}
	}
	for what, edit := range edits {
		arg := spareSpace()
		was, codeWas := wholeSpace(arg), slices.Clone(code)
		out, c := edit(arg)
		again, _ := edit(arg)
		want := cloneSpace(again)
		if c != 0 || !sameSpace(out, want) {
			t.Errorf("%s: code %d", what, c)
		}
		if !sameSpace(wholeSpace(arg), was) || !slices.Equal(code, codeWas) {
			t.Errorf("%s: written into an argument or behind its end", what)
		}
		// Each action of the answer stands alone.
		for i, x := range out.Targets {
			before := cloneSpace(impl.Space{Targets: slices.Delete(slices.Clone(out.Targets), i, i+1)})
			scribble(impl.Space{Targets: []impl.Target{x}})
			if after := (impl.Space{Targets: slices.Delete(slices.Clone(out.Targets), i, i+1)}); !sameSpace(before, after) {
				t.Errorf("%s: two lists of the answer share memory", what)
			}
		}
		scribble(out)
		if !sameSpace(wholeSpace(arg), was) || !slices.Equal(code, codeWas) || !sameSpace(again, want) {
			t.Errorf("%s: the answer shares memory", what)
		}
	}
}
