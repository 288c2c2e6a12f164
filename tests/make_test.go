package tests

import (
	"fmt"
	"math/rand"
	"slices"
	"strings"
	"testing"

	"loop.example/kilndeed/impl"
)

// scribe tells of a making in the document's words, run by run with Next. It is asked
// where tellClean gives a result of the name itself.
type scribe struct {
	m       model
	account impl.Account
}

// deed gives the place of the deed of a name, and writes it if there is none.
func (s *scribe) deed(name string) int {
	if at := slices.IndexFunc(s.account.Deeds, func(d impl.Deed) bool { return d.Name == name }); at >= 0 {
		return at
	}
	d := noneDeed(name)
	if th, there := s.m[name]; there && th.action != nil {
		d = s.target(name, program(th.action...))
	} else if there {
		d = sourceDeed(name, th.text)
	}
	s.account.Deeds = append(s.account.Deeds, d)
	return len(s.account.Deeds) - 1
}

func (s *scribe) target(name string, p impl.Program) impl.Deed {
	d := impl.Deed{Name: name, Kind: 3, Action: p}
	var replies []impl.Reply
	for {
		turn := impl.Next(p, replies)
		if turn.Over {
			d.Code, d.Text = turn.Code, turn.Text
			return d
		}
		_, there := s.m[turn.Name]
		reply := impl.Reply{Has: there}
		if turn.Ask {
			at := s.deed(turn.Name)
			reply.Code, reply.Text = s.account.Deeds[at].Code, s.account.Deeds[at].Text
			d.Links = append(d.Links, askLink(turn.Name, at))
		} else {
			d.Links = append(d.Links, hasLink(turn.Name, there))
		}
		replies = append(replies, reply)
	}
}

// tellMake is what Make must give.
func tellMake(m model, name string) (impl.Account, impl.Result) {
	r := tellClean(m, name)
	if r.Code > 5 {
		return impl.Account{}, r
	}
	s := scribe{m: m}
	s.deed(name)
	return s.account, r
}

// makes asks P5 of one name, and gives the account.
func makes(t *testing.T, m model, name string) impl.Account {
	t.Helper()
	sp := m.space()
	was := cloneSpace(sp)
	a, r := impl.Make(sp, name)
	if want, result := tellMake(m, name); !sameAccount(a, want) || !sameResult(r, result) {
		t.Fatalf("%s: %.300q\nof %.300q\nwant %.300q", name, fmt.Sprint(a, r), fmt.Sprint(m), fmt.Sprint(want, result))
	}
	if clean := impl.Clean(sp, name); !sameResult(r, clean) {
		t.Fatalf("%s: %.300q, clean %.300q", name, fmt.Sprint(r), fmt.Sprint(clean))
	}
	if !sameSpace(sp, was) {
		t.Fatalf("%s: the argument has changed", name)
	}
	if r.Code > 5 {
		if len(a.Deeds) != 0 {
			t.Fatalf("%s: an account with code %d", name, r.Code)
		}
		return a
	}
	if c, at := impl.CheckAccount(a); c != 0 || at != 0 {
		t.Fatalf("%s: not valid: %d at %d", name, c, at)
	}
	last := a.Deeds[len(a.Deeds)-1]
	tells := impl.Result{Code: last.Code, Text: last.Text}
	if last.Kind == 2 {
		tells = impl.Result{Code: 4, Text: name}
	}
	if last.Name != name || !sameResult(tells, r) {
		t.Fatalf("%s: the last deed is %.300q", name, fmt.Sprint(last))
	}
	told := map[string]int{}
	for i, d := range a.Deeds {
		if before, twice := told[d.Name]; twice {
			t.Fatalf("%s: %s told of at %d and %d", name, d.Name, before, i)
		}
		told[d.Name] = i
	}
	return a
}

func TestMakeInFull(t *testing.T) {
	m := model{
		"which": {text: "left right"}, "left": {text: "L"}, "right": asks("left"),
		"first":  action(literal("which"), ins(impl.OpAsk), ins(impl.OpWord, 0), ins(impl.OpAsk), ins(impl.OpEnd)),
		"second": action(literal("which"), ins(impl.OpAsk), ins(impl.OpWord, 1), ins(impl.OpAsk), ins(impl.OpEnd)),
		"both":   asks("second", "second", "first"),
		"looks":  action(literal("both"), ins(impl.OpHas), literal("none"), ins(impl.OpHas), ins(impl.OpCat), literal("looks"), ins(impl.OpHas), ins(impl.OpCat), ins(impl.OpEnd)),
		"gone":   asks("left", "none", "which"), "above": asks("gone", "left"), "fails": action(literal("why"), ins(impl.OpFail)), "stuck": action(ins(impl.OpEnd)),
	}
	target := func(name string, code int, text string, links ...impl.Link) impl.Deed {
		return impl.Deed{Name: name, Kind: impl.DeedTarget, Code: code, Text: text, Action: program(m[name].action...), Links: links}
	}
	which, left, none := sourceDeed("which", "left right"), sourceDeed("left", "L"), noneDeed("none")
	for _, want := range []impl.Account{
		account(which), account(none), account(noneDeed("lef")),
		account(which, left, target("right", 0, "L", askLink("left", 1)), target("second", 0, "L", askLink("which", 0), askLink("right", 2)),
			target("first", 0, "L", askLink("which", 0), askLink("left", 1)),
			target("both", 0, "L", askLink("second", 3), askLink("second", 3), askLink("first", 4))),
		account(target("looks", 0, "101", hasLink("both", true), hasLink("none", false), hasLink("looks", true))),
		account(left, none, target("gone", 4, "none", askLink("left", 0), askLink("none", 1))),
		account(left, none, target("gone", 4, "none", askLink("left", 0), askLink("none", 1)), target("above", 5, "gone", askLink("gone", 2))),
		account(target("fails", 1, "why")), account(target("stuck", 2, "0")),
	} {
		name := want.Deeds[len(want.Deeds)-1].Name
		if a := makes(t, m, name); !sameAccount(a, want) {
			t.Errorf("%s: %+v\nwant %+v", name, a, want)
		}
	}
}

func TestMakeWithoutAccount(t *testing.T) {
	none := func(sp impl.Space, name string, want impl.Result) {
		t.Helper()
		if a, r := impl.Make(sp, name); len(a.Deeds) != 0 || !sameResult(r, want) {
			t.Errorf("%.100q: %+v %+v, want %+v", name, a, r, want)
		}
	}
	for _, name := range wrongNames {
		none(model{"a": {}}.space(), name, impl.Result{Code: 9})
	}
	spaces, codes := wrongSpaces()
	for i, sp := range spaces {
		for _, name := range []string{"a", "t", "none", ""} {
			if codes[i] != 0 {
				none(sp, name, impl.Result{Code: 9})
			}
		}
	}
	m := model{"s": {text: "x"}, "a": asks("s", "b"), "b": asks("c"), "c": asks("s", "a"), "top": asks("s", "none2", "a"), "none2": asks("s")}
	none(m.space(), "a", impl.Result{Code: 6, Chain: []string{"a", "b", "c"}})
	none(m.space(), "top", impl.Result{Code: 6, Chain: []string{"a", "b", "c"}})
	none(tower(impl.MaxDepth+1, "src").space(), "t000", impl.Result{Code: 7, Text: "t060"})
	none(tower(150, "src").space(), "t000", impl.Result{Code: 7, Text: "t060"})
}

func TestMakeAtTheLimits(t *testing.T) {
	// Depth.
	a := makes(t, tower(impl.MaxDepth, "src"), "t000")
	if len(a.Deeds) != impl.MaxDepth+1 || a.Deeds[0].Name != "src" || a.Deeds[1].Name != "t059" {
		t.Errorf("%d deeds", len(a.Deeds))
	}
	makes(t, tower(impl.MaxDepth, "none"), "t000")
	makes(t, tower(impl.MaxDepth, "made").with("made", endless).with("t000", asks("src", "t001")), "t000")
	makes(t, tower(impl.MaxDepth, "made").with("made", asks("src")).with("t000", asks("made", "t001")), "t000")
	// Looks: each is a link, also of what was looked at before; the one too many is none.
	for _, look := range []int{impl.OpAsk, impl.OpHas} {
		m := model{"s": {text: "x"}, "t": action(literal("s"), ins(look), ins(impl.OpDrop), ins(impl.OpJump, 0))}
		a := makes(t, m, "t")
		last := a.Deeds[len(a.Deeds)-1]
		if len(last.Links) != impl.MaxLooks || last.Code != impl.Spent || last.Text != "" {
			t.Errorf("%d links, code %d", len(last.Links), last.Code)
		}
	}
	// Names and texts.
	name, text := strings.Repeat("~", impl.MaxName), strings.Repeat("\xff", impl.MaxText)
	makes(t, model{name: {text: text}, "t": asks(name)}, "t")
	makes(t, model{"t": asks(name), "u": action(literal(name), ins(impl.OpHas), ins(impl.OpEnd))}, "t")
	makes(t, model{"t": asks(name + "~")}, "t")
	// Things: a full space, all of which is asked for, and one name of nothing.
	m := model{"all": reads("s000"), "top": asks("all", "none")}
	for _, s := range row("s", impl.MaxThings-2) {
		m[s.Name] = thing{text: s.Text}
	}
	if a := makes(t, m, "top"); len(a.Deeds) != impl.MaxThings+1 || a.Deeds[impl.MaxThings-1].Name != "none" {
		t.Errorf("%d deeds", len(a.Deeds))
	}
}

func TestMakeAtRandom(t *testing.T) {
	r := rand.New(rand.NewSource(8))
	names := []string{"a", "b", "c", "d", "e", "f", "g", "h", "x"}
	most := 0
	for range 3000 {
		m := randomModel(r, names)
		for _, name := range names {
			most = max(most, len(makes(t, m, name).Deeds))
		}
	}
	if most < 8 {
		t.Errorf("no account of many deeds: %d", most)
	}
}

// wholeAccount is a copy of an account with all that stands behind its lists.
func wholeAccount(a impl.Account) impl.Account {
	out := impl.Account{Deeds: slices.Clone(a.Deeds[:cap(a.Deeds)])}
	for i, d := range out.Deeds {
		out.Deeds[i].Action.Code, out.Deeds[i].Links = d.Action.Code[:cap(d.Action.Code)], d.Links[:cap(d.Links)]
	}
	return cloneAccount(out)
}

// scribbleDeed writes over all memory that a deed's lists reach, spare room included.
func scribbleDeed(d impl.Deed) {
	for i := range d.Action.Code[:cap(d.Action.Code)] {
		d.Action.Code[:cap(d.Action.Code)][i] = impl.Ins{Op: 99, Text: "scribbled", N: -1}
	}
	for i := range d.Links[:cap(d.Links)] {
		d.Links[:cap(d.Links)][i] = impl.Link{Name: "scribbled", Ask: true, Has: true, At: -1}
	}
}

func TestAccountsAreNewMemory(t *testing.T) {
	shared := append(make([]impl.Ins, 0, 9), literal("a"), ins(impl.OpAsk), literal("c"), ins(impl.OpHas), ins(impl.OpCat), ins(impl.OpEnd), ins(98))
	targets := append(make([]impl.Target, 0, 4), impl.Target{Name: "b", Action: impl.Program{Code: shared[:6]}}, impl.Target{Name: "d", Action: program(literal("b"), ins(impl.OpAsk), ins(impl.OpEnd))}, impl.Target{Name: "behind"})
	sp := impl.Space{Sources: append(make([]impl.Source, 0, 4), impl.Source{Name: "a", Text: "x"}, impl.Source{Name: "behind"})[:1], Targets: targets[:2]}
	was := wholeSpace(sp)
	again, _ := impl.Make(sp, "d")
	want := cloneAccount(again)
	for at := range want.Deeds {
		a, _ := impl.Make(sp, "d")
		if !sameAccount(a, want) {
			t.Fatalf("%+v", a)
		}
		scribbleDeed(a.Deeds[at])
		left := cloneAccount(a)
		left.Deeds[at] = want.Deeds[at]
		if !sameAccount(left, want) {
			t.Errorf("deed %d shares memory with another", at)
		}
		for i := range a.Deeds[:cap(a.Deeds)] {
			a.Deeds[:cap(a.Deeds)][i] = impl.Deed{Name: "scribbled"}
		}
		if !sameSpace(wholeSpace(sp), was) || !sameAccount(again, want) {
			t.Errorf("deed %d shares memory with the space or another answer", at)
		}
	}
	impl.Make(sp, "none")
	impl.Make(sp, "")
	if !sameSpace(wholeSpace(sp), was) {
		t.Error("written into an argument or behind its end")
	}
}
