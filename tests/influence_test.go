package tests

import (
	"fmt"
	"math/rand"
	"slices"
	"strings"
	"testing"

	"loop.example/kilndeed/impl"
)

// tellNames are the names of all deeds and links, and those of the sources.
func tellNames(a impl.Account) (names, sources []string) {
	if c, _ := tellCheck(a); c != 0 {
		return nil, nil
	}
	for _, d := range a.Deeds {
		names = append(names, d.Name)
		if d.Kind == 1 {
			sources = append(sources, d.Name)
		}
		for _, l := range d.Links {
			names = append(names, l.Name)
		}
	}
	slices.Sort(names)
	slices.Sort(sources)
	return slices.Compact(names), sources
}

// tellDepends goes over all deeds again until there are no more that stand on the
// name, and follows the asks by their places.
func tellDepends(a impl.Account, name string) []string {
	if c, _ := tellCheck(a); c != 0 {
		return nil
	}
	among := make([]bool, len(a.Deeds))
	for more := true; more; {
		more = false
		for i, d := range a.Deeds {
			for _, l := range d.Links {
				if !among[i] && (l.Name == name || l.Ask && among[l.At]) {
					among[i], more = true, true
				}
			}
		}
	}
	var names []string
	for i, d := range a.Deeds {
		if among[i] {
			names = append(names, d.Name)
		}
	}
	slices.Sort(names)
	return names
}

// influences asks Names, Sources and Depends of one account what they must say, and
// P10 of the names that are given and of all that the account has.
func influences(t *testing.T, a impl.Account, more ...string) {
	t.Helper()
	was := cloneAccount(a)
	wantNames, wantSources := tellNames(a)
	names, sources := impl.Names(a), impl.Sources(a)
	if !slices.Equal(names, wantNames) || !slices.Equal(sources, wantSources) {
		t.Fatalf("%.300q:\nnames %.300q, want %.300q\nsources %.300q, want %.300q", fmt.Sprint(a), names, wantNames, sources, wantSources)
	}
	for _, name := range append(more, wantNames...) {
		depends := impl.Depends(a, name)
		if want := tellDepends(a, name); !slices.Equal(depends, want) {
			t.Fatalf("%.300q:\n%.70q: %.300q, want %.300q", fmt.Sprint(a), name, depends, want)
		}
		deed := slices.ContainsFunc(a.Deeds, func(d impl.Deed) bool { return d.Name == name })
		named := slices.Contains(names, name)
		if c, _ := impl.CheckAccount(a); c == 0 && named != (deed || len(depends) > 0) {
			t.Fatalf("%.300q:\n%.70q is one of the names: %v; it has a deed: %v; depends %q", fmt.Sprint(a), name, named, deed, depends)
		}
	}
	if !sameAccount(a, was) {
		t.Fatalf("%.300q: the argument has changed", fmt.Sprint(was))
	}
}

// tells asks for what Names, Sources and Depends say, names with a space between.
func tells(t *testing.T, a impl.Account, names, sources string, depends map[string]string) {
	t.Helper()
	influences(t, a, wrongNames...)
	if got := strings.Join(impl.Names(a), " "); got != names {
		t.Errorf("names: %q, want %q", got, names)
	}
	if got := strings.Join(impl.Sources(a), " "); got != sources {
		t.Errorf("sources: %q, want %q", got, sources)
	}
	for name, want := range depends {
		if got := strings.Join(impl.Depends(a, name), " "); got != want {
			t.Errorf("depends of %q: %q, want %q", name, got, want)
		}
	}
}

func TestNamesOfTheLedger(t *testing.T) {
	m := ledger()
	tells(t, makes(t, m, "top"), "conf mid none opt part spare there there2 top", "conf part", map[string]string{
		"conf": "mid top", "part": "mid top", "mid": "top", "none": "opt top", "there": "opt top", "there2": "opt top", "opt": "top", "spare": "top",
		"top": "", "unseen": "", "con": "", "confx": "", "CONF": "", "x": "", "P": "", "T": "",
	})
	// What lies under a name that is only looked for is not one of the sources.
	tells(t, makes(t, m, "opt"), "none opt there there2", "", map[string]string{"there": "opt", "there2": "opt", "none": "opt", "opt": "", "conf": ""})
}

func TestNamesOfOneDeed(t *testing.T) {
	none := map[string]string{"s": "", "t": "", "n": "", "x": "", "": ""}
	tells(t, account(sourceDeed("s", "")), "s", "s", none)
	tells(t, account(sourceDeed("s", "s t n")), "s", "s", none)
	tells(t, account(noneDeed("n")), "n", "", none)
	tells(t, account(targetDeed("t")), "t", "", none)
	tells(t, account(targetDeed("t", hasLink("s", true), hasLink("n", false), hasLink("s", true))), "n s t", "", map[string]string{"s": "t", "n": "t", "t": "", "x": ""})
	// A target that looks whether it is there itself stands on its own name.
	tells(t, account(targetDeed("t", hasLink("t", true))), "t", "", map[string]string{"t": "t", "s": ""})
	// Its result's text and the literals of its action are no names.
	d := targetDeed("t")
	d.Code, d.Text, d.Action = impl.Missing, "n", program(literal("s"), ins(impl.OpDrop), literal("x"), ins(impl.OpEnd))
	tells(t, account(d), "t", "", none)
}

func TestNamesInTheirOrder(t *testing.T) {
	a := account(sourceDeed("b", ""), sourceDeed("a", ""), sourceDeed("aa", ""), sourceDeed("~", ""), sourceDeed("A", ""), sourceDeed("!", ""), sourceDeed("a!", ""), sourceDeed("10", ""), sourceDeed("9", ""))
	var links []impl.Link
	for i, d := range a.Deeds {
		links = append(links, askLink(d.Name, i), hasLink(d.Name, true), hasLink(d.Name+"'", false))
	}
	a.Deeds = append(a.Deeds, targetDeed("Z", links...))
	tells(t, a, "! !' 10 10' 9 9' A A' Z a a! a!' a' aa aa' b b' ~ ~'", "! 10 9 A a a! aa b ~", map[string]string{"a": "Z", "a'": "Z", "Z": ""})
	// Who stands on a name is told ascending, not as it was made.
	b := account(noneDeed("n"), targetDeed("z", askLink("n", 0)), targetDeed("aa", askLink("z", 1)), targetDeed("a", askLink("aa", 2)), targetDeed("M", askLink("a", 3)))
	tells(t, b, "M a aa n z", "", map[string]string{"n": "M a aa z", "z": "M a aa", "aa": "M a", "a": "M", "M": ""})
}

func TestDependsThroughOthers(t *testing.T) {
	// Each way to a name counts once, and goes on through asks alone: side looks whether mid is there, and does not stand on what mid reads.
	a := account(
		sourceDeed("s", ""), targetDeed("mid", askLink("s", 0)), targetDeed("side", hasLink("mid", true)), noneDeed("n"), targetDeed("apart", askLink("n", 3)),
		targetDeed("over", askLink("side", 2), askLink("apart", 4)), targetDeed("root", askLink("mid", 1), askLink("over", 5), askLink("side", 2), askLink("mid", 1)),
	)
	tells(t, a, "apart mid n over root s side", "s", map[string]string{
		"s": "mid root", "mid": "over root side", "side": "over root", "n": "apart over root", "apart": "over root", "over": "root", "root": "",
	})
	// The same with a look for the name itself, which no deed tells of.
	b := account(targetDeed("a", hasLink("q", false)), targetDeed("b", askLink("a", 0)), targetDeed("c", hasLink("b", true)), targetDeed("d", askLink("b", 1), askLink("c", 2)), targetDeed("e", hasLink("q", true), askLink("d", 3)))
	tells(t, b, "a b c d e q", "", map[string]string{"q": "a b d e", "a": "b d e", "b": "c d e", "c": "d e", "d": "e", "e": ""})
}

func TestDependsOfATower(t *testing.T) {
	for _, last := range []string{"src", "none"} {
		a := makes(t, tower(impl.MaxDepth, last), "t000")
		influences(t, a, wrongNames...)
		if got := impl.Depends(a, last); !slices.Equal(got, towerNames(0, impl.MaxDepth)) {
			t.Errorf("%q", got)
		}
		for i, name := range towerNames(0, impl.MaxDepth) {
			if got := impl.Depends(a, name); !slices.Equal(got, towerNames(0, i)) {
				t.Errorf("%s: %q", name, got)
			}
		}
	}
}

// crowd is a valid account of the given number of targets, in chains of 50: each looks
// for 199 names of its own, but the last, which asks for the heads of all chains.
func crowd(n int) impl.Account {
	var a impl.Account
	for i := range n {
		d := targetDeed(fmt.Sprintf("c%03d", i))
		for j := range impl.MaxLooks - 1 {
			d.Links = append(d.Links, hasLink(fmt.Sprintf("h%03d-%03d", i, j), j%2 == 0))
		}
		if i%50 > 0 {
			d.Links = append(d.Links, askLink(a.Deeds[i-1].Name, i-1))
		}
		a.Deeds = append(a.Deeds, d)
	}
	last := &a.Deeds[n-1]
	last.Links = nil
	for at := 49; at < n-1; at += 50 {
		last.Links = append(last.Links, askLink(a.Deeds[at].Name, at))
	}
	last.Links = append(last.Links, askLink(a.Deeds[n-2].Name, n-2))
	return a
}

func TestNamesAtTheLimits(t *testing.T) {
	long := strings.Repeat("~", impl.MaxName)
	tells(t, account(sourceDeed(long, ""), targetDeed("!", askLink(long, 0))), "! "+long, long, map[string]string{long: "!", long[1:]: "", long + "~": ""})
	a := wide(impl.MaxDeeds)
	if n, s, d := len(impl.Names(a)), len(impl.Sources(a)), impl.Depends(a, "i199"); n != 400 || s != 398 || !slices.Equal(d, []string{"inner", "outer"}) {
		t.Errorf("%d names, %d sources, %q", n, s, d)
	}
	tells(t, wide(impl.MaxDeeds+1), "", "", map[string]string{"i000": "", "inner": "", "outer": ""})
	a = crowd(impl.MaxDeeds)
	checks(t, a, 0, 0)
	if n := len(impl.Names(a)); n != 400+399*199 {
		t.Errorf("%d names", n)
	}
	if d := impl.Depends(a, "h350-000"); len(d) != 50 || d[0] != "c350" || d[49] != "c399" {
		t.Errorf("%q", d)
	}
	if d := impl.Depends(a, "h320-198"); len(d) != 31 || d[0] != "c320" || d[29] != "c349" || d[30] != "c399" {
		t.Errorf("%q", d)
	}
}

func TestNamesOfWhatIsNotValid(t *testing.T) {
	asked := []string{"s", "t", "u", "z", "c00", "root", "d", "", "x000"}
	list, codes, _ := wrongAccounts()
	for i, a := range list {
		influences(t, a, asked...)
		if n := len(impl.Names(a)); (n > 0) != (codes[i] == 0) {
			t.Errorf("code %d, %d names", codes[i], n)
		}
	}
	none := map[string]string{}
	for _, name := range asked {
		none[name] = ""
	}
	for _, d := range wrongDeeds() {
		tells(t, account(sourceDeed("s", ""), targetDeed("u", askLink("s", 0)), d), "", "", none)
	}
	tells(t, impl.Account{}, "", "", none)
	tells(t, account(sourceDeed("s", ""), targetDeed("u")), "", "", none)
	tells(t, chain(impl.MaxDepth+1, sourceDeed("s", "")), "", "", none)
}

// freed is a valid account whose targets also have looks at random that ask for
// nothing, of names of deeds and of others.
func freed(r *rand.Rand) impl.Account {
	for {
		a := randomAccount(r)
		for i := range a.Deeds {
			d := &a.Deeds[i]
			if d.Kind == 1 && r.Intn(2) == 0 {
				d.Text = "y"
			}
			if d.Kind == 3 && r.Intn(2) == 0 {
				d.Action = program(literal("x"), ins(impl.OpEnd))
			}
			for d.Kind == 3 && r.Intn(3) == 0 {
				d.Links = slices.Insert(d.Links, r.Intn(len(d.Links)+1), hasLink(string(rune('a'+r.Intn(8))), r.Intn(3) > 0))
			}
		}
		if c, _ := tellCheck(a); c == 0 {
			return a
		}
	}
}

func TestNamesAtRandom(t *testing.T) {
	r := rand.New(rand.NewSource(10))
	through := 0
	for range 6000 {
		a := freed(r)
		influences(t, a, "a", "b", "c", "d", "e", "f", "g", "h", "z", "")
		influences(t, bent(r, a), "a", "b", "z")
		if len(impl.Depends(a, "a")) > 2 {
			through++
		}
	}
	if through < 200 {
		t.Errorf("too few accounts in which many stand on one: %d", through)
	}
}

// stays asks P9 of an account of a space in another that has changed under names
// that are none of its names.
func stays(t *testing.T, a impl.Account, m, changed model) {
	t.Helper()
	names := impl.Names(a)
	for _, name := range append(m.names(), changed.names()...) {
		if slices.Contains(names, name) && !sameThing(m, changed, name) {
			t.Fatalf("the test changes %s", name)
		}
	}
	root := a.Deeds[len(a.Deeds)-1].Name
	if audits(t, a, changed) != 0 || !sameAccount(makes(t, changed, root), a) {
		t.Fatalf("%+v\nis no more accepted in %+v", a, changed)
	}
}

// sameThing says whether the same lies under a name in both.
func sameThing(m, other model, name string) bool {
	x, inOne := m[name]
	y, inOther := other[name]
	return inOne == inOther && x.text == y.text && (x.action == nil) == (y.action == nil) && slices.Equal(x.action, y.action)
}

// falls asks that each name of an account matters: a change under it alone is seen.
func falls(t *testing.T, a impl.Account, m model) {
	t.Helper()
	for _, name := range impl.Names(a) {
		other := m.without(name)
		if _, there := m[name]; !there {
			other = m.with(name, thing{})
		}
		if audits(t, a, other) == 0 {
			t.Fatalf("%+v\nis accepted without %s", a, name)
		}
	}
}

func TestNoInfluenceOfOtherNames(t *testing.T) {
	m := ledger().with("unseen", asks("top")).with("also", thing{text: "conf"})
	others := map[string][]string{
		"top": {"unseen", "also", "new", "conf2", "!", "~", "zzz", "x", "P"}, "mid": {"top", "opt", "there", "there2", "spare", "none", "unseen", "also", "new"},
		"opt": {"top", "mid", "conf", "part", "spare", "unseen", "new"}, "conf": {"top", "mid", "part", "none", "new"}, "none": {"conf", "top", "spare", "new", "none2"},
		"spare": {"conf", "mid", "top", "there"},
	}
	for root, list := range others {
		a := makes(t, m, root)
		all, none := m, m
		for _, name := range list {
			for _, th := range []thing{{}, {text: "other"}, endless, asks("conf", "mid"), asks(root), asks(name)} {
				stays(t, a, m, m.with(name, th))
				all = all.with(name, th)
			}
			stays(t, a, m, m.without(name))
			none = none.without(name)
		}
		stays(t, a, m, all)
		stays(t, a, m, none)
		falls(t, a, m)
	}
	// A space filled up, and one with nothing but what the account names.
	a := makes(t, m, "top")
	full := m
	for name, th := range many(impl.MaxThings-len(m), endless) {
		full = full.with(name, th)
	}
	stays(t, a, m, full)
	if c, k := impl.Audit(a, full.with("n", thing{}).space()); c != 1 || k != 0 {
		t.Errorf("%d at %d", c, k)
	}
	bare := m
	for name := range m {
		if !slices.Contains(impl.Names(a), name) {
			bare = bare.without(name)
		}
	}
	stays(t, a, m, bare)
	stays(t, account(noneDeed("none")), model{}, full)
}

func TestInfluenceAtRandom(t *testing.T) {
	r := rand.New(rand.NewSource(11))
	names := []string{"a", "b", "c", "d", "e", "f", "x", "z"}
	changed := 0
	for range 1500 {
		m, source := randomModel(r, names), randomModel(r, names)
		for _, root := range names {
			a := makes(t, m, root)
			if len(a.Deeds) == 0 {
				continue
			}
			influences(t, a, names...)
			falls(t, a, m)
			// All of another space under the names that are none of the account's.
			other := m
			for _, name := range append(names, "new") {
				th, there := source[name]
				switch {
				case slices.Contains(impl.Names(a), name):
				case there:
					other = other.with(name, th)
					changed++
				default:
					other = other.without(name)
				}
			}
			stays(t, a, m, other)
		}
	}
	if changed < 5000 {
		t.Errorf("too few changes: %d", changed)
	}
}
