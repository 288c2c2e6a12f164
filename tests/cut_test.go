package tests

import (
	"fmt"
	"math/rand"
	"slices"
	"testing"

	"loop.example/kilndeed/impl"
)

// tellCut is what Cut must give: the deeds are gathered by their names, and get their
// places when all are there.
func tellCut(a impl.Account, name string) impl.Account {
	if c, _ := tellCheck(a); c != 0 {
		return impl.Account{}
	}
	deeds := map[string]impl.Deed{}
	for _, d := range cloneAccount(a).Deeds {
		deeds[d.Name] = d
	}
	if _, there := deeds[name]; !there {
		return impl.Account{}
	}
	var order []string
	var list func(name string)
	list = func(name string) {
		for _, l := range deeds[name].Links {
			if l.Ask && !slices.Contains(order, l.Name) {
				list(l.Name)
			}
		}
		order = append(order, name)
	}
	list(name)
	var out impl.Account
	for _, n := range order {
		d := deeds[n]
		for i, l := range d.Links {
			if l.Ask {
				d.Links[i].At = slices.Index(order, l.Name)
			}
		}
		out.Deeds = append(out.Deeds, d)
	}
	if c, _ := tellCheck(out); c != 0 {
		return impl.Account{}
	}
	return out
}

// cut asks Cut what it must say, and gives its answer.
func cut(t *testing.T, a impl.Account, name string) impl.Account {
	t.Helper()
	was := cloneAccount(a)
	b := impl.Cut(a, name)
	if want := tellCut(a, name); !sameAccount(b, want) {
		t.Fatalf("cut of %.70q in %.300q:\n%.300q\nwant %.300q", name, fmt.Sprint(a), fmt.Sprint(b), fmt.Sprint(want))
	}
	if c, _ := impl.CheckAccount(b); c != 0 && len(b.Deeds) > 0 {
		t.Fatalf("cut of %s is not valid: %+v", name, b)
	}
	if !sameAccount(a, was) {
		t.Fatalf("%.300q: the argument has changed", fmt.Sprint(was))
	}
	return b
}

// cuts asks P13 of the account of a name in a space, for each name that the account
// or the space has, and gives how many of the cuts are Deep by themselves.
func cuts(t *testing.T, m model, root string) int {
	t.Helper()
	a, sp := makes(t, m, root), m.space()
	deep := 0
	names := append(append(impl.Names(a), m.names()...), "no such name", "nosuchname", "")
	slices.Sort(names)
	for _, name := range slices.Compact(names) {
		b := cut(t, a, name)
		made, r := impl.Make(sp, name)
		switch {
		case !slices.ContainsFunc(a.Deeds, func(d impl.Deed) bool { return d.Name == name }):
			if len(b.Deeds) > 0 {
				t.Fatalf("%s has no deed in that of %s, but a cut: %+v", name, root, b)
			}
		case r.Code == impl.Deep:
			deep++
			if len(b.Deeds) > 0 {
				t.Fatalf("%s is too deep, but has a cut in that of %s: %+v", name, root, b)
			}
		default:
			if c, k := impl.Audit(b, sp); c != 0 || !sameAccount(b, made) {
				t.Fatalf("cut of %s in that of %s: %d at %d: %.300q\nwant %.300q", name, root, c, k, fmt.Sprint(b), fmt.Sprint(made))
			}
		}
	}
	return deep
}

func TestCutsOfTheLedger(t *testing.T) {
	m := ledger()
	for _, name := range append(m.names(), "none") {
		cuts(t, m, name)
	}
	a := makes(t, m, "top")
	target := func(name string, code int, text string, links ...impl.Link) impl.Deed {
		return impl.Deed{Name: name, Kind: 3, Code: code, Text: text, Action: m[name].program(), Links: links}
	}
	for name, want := range map[string]impl.Account{
		"top":  a,
		"conf": account(sourceDeed("conf", "part x")), "part": account(sourceDeed("part", "P")), "none": account(noneDeed("none")),
		"mid": account(sourceDeed("conf", "part x"), sourceDeed("part", "P"), target("mid", 0, "P", askLink("conf", 0), askLink("part", 1))),
		"opt": account(noneDeed("none"), target("opt", 4, "none", hasLink("there", true), hasLink("there2", false), askLink("none", 0))),
		// What is only looked for has no deed.
		"there": {}, "there2": {}, "spare": {}, "": {}, "to": {}, "top ": {}, "TOP": {}, "P": {},
	} {
		if b := cut(t, a, name); !sameAccount(b, want) {
			t.Errorf("%s: %+v\nwant %+v", name, b, want)
		}
	}
}

// The places in a cut are its own, and its deeds may stand in another order.
func TestPlacesInACut(t *testing.T) {
	m := model{"c": {text: "C"}, "e": {text: "E"}, "g": asks("e"), "d": asks("e", "g", "c"), "root": asks("c", "g", "d"), "other": asks("root", "c", "n", "d")}
	a := makes(t, m, "root")
	if got := fmt.Sprint(places(a)); got != "[c e g[1] d[1 2 0] root[0 2 3]]" {
		t.Fatalf("%s", got)
	}
	for name, want := range map[string]string{"root": "[c e g[1] d[1 2 0] root[0 2 3]]", "d": "[e g[0] c d[0 1 2]]", "g": "[e g[0]]", "e": "[e]", "c": "[c]"} {
		if got := fmt.Sprint(places(cut(t, a, name))); got != want {
			t.Errorf("%s: %s, want %s", name, got, want)
		}
	}
	for _, name := range m.names() {
		cuts(t, m, name)
	}
	// A cut of a cut.
	b := cut(t, cut(t, makes(t, m, "other"), "root"), "d")
	if got := fmt.Sprint(places(b)); got != "[e g[0] c d[0 1 2]]" {
		t.Errorf("%s", got)
	}
	// One that no space has: a look keeps what it says, and a place of 0.
	x := account(noneDeed("n"), sourceDeed("s", ""), targetDeed("t", askLink("s", 1), hasLink("n", true), hasLink("s", false), askLink("n", 0), askLink("s", 1)), targetDeed("u", askLink("n", 0), askLink("t", 2)))
	want := account(sourceDeed("s", ""), noneDeed("n"), targetDeed("t", askLink("s", 0), hasLink("n", true), hasLink("s", false), askLink("n", 1), askLink("s", 0)))
	if b := cut(t, x, "t"); !sameAccount(b, want) {
		t.Errorf("%+v", b)
	}
}

// places are the deeds' names, each with the places of its asks.
func places(a impl.Account) []string {
	var list []string
	for _, d := range a.Deeds {
		var at []int
		for _, l := range d.Links {
			at = append(at, l.At)
		}
		s := d.Name
		if at != nil {
			s += fmt.Sprint(at)
		}
		list = append(list, s)
	}
	return list
}

// twin is two towers: low of the given number, and high of another whose last asks for
// the first of low; root asks for low first, so that high stands on it from afar.
func twin(low, high int) model {
	m := model{"src": {text: "x"}, "root": asks("l000", "h000")}
	for i := range low {
		m[fmt.Sprintf("l%03d", i)] = asks(map[bool]string{true: fmt.Sprintf("l%03d", i+1), false: "src"}[i < low-1])
	}
	for i := range high {
		m[fmt.Sprintf("h%03d", i)] = asks(map[bool]string{true: fmt.Sprintf("h%03d", i+1), false: "l000"}[i < high-1])
	}
	return m
}

func TestCutsThatAreDeeperByThemselves(t *testing.T) {
	for _, c := range []struct{ low, high, deep int }{
		{1, 59, 0}, {30, 30, 0}, {59, 1, 0}, {1, 58, 0}, {40, 40, 20}, {59, 59, 58}, {30, 31, 1}, {31, 30, 1}, {2, 59, 1}, {59, 2, 1}, {59, 3, 2},
	} {
		m := twin(c.low, c.high)
		// The way from the root is short enough, that of a name by itself not always.
		if deep := cuts(t, m, "root"); deep != c.deep {
			t.Errorf("%d and %d: %d names are too deep, want %d", c.low, c.high, deep, c.deep)
		}
		a := makes(t, m, "root")
		for i := range c.high {
			name := fmt.Sprintf("h%03d", i)
			b := cut(t, a, name)
			if want := i >= c.deep; (len(b.Deeds) > 0) != want || want && len(b.Deeds) != c.high-i+c.low+1 {
				t.Errorf("%d and %d: %s has %d deeds", c.low, c.high, name, len(b.Deeds))
			}
		}
	}
	// The same where no run would give it.
	a := account(targetDeed("low"))
	for i := range 60 {
		a.Deeds = append(a.Deeds, targetDeed(fmt.Sprintf("t%02d", i), askLink(a.Deeds[i].Name, i)))
	}
	root := targetDeed("root", askLink("low", 0))
	for i := 1; i <= 60; i++ {
		root.Links = append(root.Links, askLink(a.Deeds[i].Name, i))
	}
	a.Deeds = append(a.Deeds, root)
	checks(t, a, 0, 0)
	for i, want := range map[int]int{0: 2, 30: 32, 58: 60, 59: 0} {
		if b := cut(t, a, fmt.Sprintf("t%02d", i)); len(b.Deeds) != want {
			t.Errorf("%d: %d deeds", i, len(b.Deeds))
		}
	}
}

func TestCutsAtTheLimits(t *testing.T) {
	for _, last := range []string{"src", "none"} {
		m := tower(impl.MaxDepth, last)
		cuts(t, m, "t000")
		a := makes(t, m, "t000")
		for i := range impl.MaxDepth {
			if b := cut(t, a, fmt.Sprintf("t%03d", i)); len(b.Deeds) != impl.MaxDepth+1-i {
				t.Errorf("%d: %d deeds", i, len(b.Deeds))
			}
		}
	}
	a := wide(impl.MaxDeeds)
	if b := cut(t, a, "outer"); !sameAccount(b, a) {
		t.Errorf("%d deeds", len(b.Deeds))
	}
	if b := cut(t, a, "inner"); len(b.Deeds) != 201 {
		t.Errorf("%d deeds", len(b.Deeds))
	}
	if b := cut(t, a, "o197"); !sameAccount(b, account(sourceDeed("o197", ""))) {
		t.Errorf("%+v", b)
	}
	c := crowd(impl.MaxDeeds)
	if b := cut(t, c, "c349"); len(b.Deeds) != 50 || len(b.Deeds[49].Links) != impl.MaxLooks || b.Deeds[49].Links[199].At != 48 {
		t.Errorf("%d deeds", len(b.Deeds))
	}
	cut(t, c, "c399")
	cut(t, c, "h350-000")
}

func TestCutsOfWhatIsNotValid(t *testing.T) {
	none := func(a impl.Account, names ...string) {
		t.Helper()
		for _, name := range append(append(names, wrongNames...), "s", "t", "u", "d", "root", "c00") {
			if b := cut(t, a, name); len(b.Deeds) > 0 {
				t.Errorf("%.300q: %.300q", fmt.Sprint(a), fmt.Sprint(b))
			}
		}
	}
	list, codes, _ := wrongAccounts()
	for i, a := range list {
		if codes[i] != 0 {
			none(a, "y0", "unasked")
		} else if b := cut(t, a, "t"); len(b.Deeds) != 2 {
			t.Errorf("%+v", b)
		}
	}
	// The cut would be valid, but what it is cut from is not.
	for _, d := range wrongDeeds() {
		none(account(sourceDeed("s", ""), targetDeed("u", askLink("s", 0)), d), d.Name)
	}
	none(impl.Account{})
	none(wide(impl.MaxDeeds+1), "i000", "inner", "outer")
	none(chain(impl.MaxDepth+1, sourceDeed("s", "")), "t000", "t001", "t060")
	good := account(sourceDeed("x", ""), targetDeed("y", askLink("x", 0)))
	for _, name := range wrongNames {
		if b := cut(t, good, name); len(b.Deeds) > 0 {
			t.Errorf("%q: %+v", name, b)
		}
	}
}

func TestCutsAtRandom(t *testing.T) {
	r := rand.New(rand.NewSource(15))
	for range 6000 {
		a := freed(r)
		for _, name := range []string{"a", "b", "c", "d", "e", "z", ""} {
			cut(t, a, name)
			cut(t, bent(r, a), name)
		}
	}
	names := []string{"a", "b", "c", "d", "e", "f", "x"}
	for range 1500 {
		m := randomModel(r, names)
		for _, name := range names {
			cuts(t, m, name)
		}
	}
}

func TestCutsOfTallSpacesAtRandom(t *testing.T) {
	r := rand.New(rand.NewSource(16))
	deep := 0
	for range 60 {
		m := twin(25+r.Intn(25), 25+r.Intn(25))
		for range r.Intn(4) {
			from, to := fmt.Sprintf("h%03d", r.Intn(25)), fmt.Sprintf("l%03d", r.Intn(25))
			next := m[from].action[0].Text
			m[from] = []thing{asks(to, next), asks(next, to), asks(to), asks("src", to, next)}[r.Intn(4)]
		}
		deep += min(1, cuts(t, m, "root"))
	}
	if deep < 15 || deep > 55 {
		t.Errorf("too few spaces with cuts that are too deep, or without: %d", deep)
	}
}

func TestCutsAreNewMemory(t *testing.T) {
	links := append(make([]impl.Link, 0, 5), askLink("s", 1), askLink("n", 0), hasLink("q", true), hasLink("behind", true))
	code := append(make([]impl.Ins, 0, 4), ins(impl.OpEnd), literal("behind"))
	d := impl.Deed{Name: "t", Kind: 3, Action: impl.Program{Code: code[:1]}, Links: links[:3]}
	e := impl.Deed{Name: "u", Kind: 3, Action: impl.Program{Code: code[:1]}, Links: []impl.Link{askLink("n", 0), askLink("t", 2)}}
	bare := impl.Deed{Name: "n", Kind: 2, Action: impl.Program{Code: code[:0]}, Links: links[:0]}
	a := impl.Account{Deeds: append(make([]impl.Deed, 0, 6), bare, sourceDeed("s", "x"), d, e, noneDeed("behind"))[:4]}
	was := wholeAccount(a)
	for _, name := range []string{"t", "u", "n"} {
		again := cut(t, a, name)
		want := cloneAccount(again)
		for at := range want.Deeds {
			b := cut(t, a, name)
			scribbleDeed(b.Deeds[at])
			left := cloneAccount(b)
			left.Deeds[at] = want.Deeds[at]
			if !sameAccount(left, want) {
				t.Errorf("%s: deed %d shares memory with another", name, at)
			}
			for i := range b.Deeds[:cap(b.Deeds)] {
				b.Deeds[:cap(b.Deeds)][i] = impl.Deed{Name: "scribbled"}
			}
			if !sameAccount(again, want) || !sameAccount(wholeAccount(a), was) {
				t.Fatalf("%s: deed %d shares memory with the argument or another answer", name, at)
			}
		}
	}
}
