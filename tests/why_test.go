package tests

import (
	"fmt"
	"math/rand"
	"slices"
	"strings"
	"testing"

	"loop.example/kilndeed/impl"
)

// word is what a deed or a look tells of a name: in which cases it is so. nil is a
// space with nothing under the name.
type word func(th *thing) bool

// tellWords are all words of an account of a name.
func tellWords(a impl.Account, name string) []word {
	var words []word
	for _, d := range a.Deeds {
		for _, l := range d.Links {
			if l.Name == name && !l.Ask {
				words = append(words, func(th *thing) bool { return l.Has == (th != nil) })
			}
		}
		switch {
		case d.Name != name:
		case d.Kind == 1:
			words = append(words, func(th *thing) bool { return th != nil && th.action == nil && th.text == d.Text })
		case d.Kind == 2:
			words = append(words, func(th *thing) bool { return th == nil })
		default:
			words = append(words, func(th *thing) bool { return th != nil && slices.Equal(th.action, d.Action.Code) })
		}
	}
	return words
}

// tellThings are things that may lie under a name: each that one of the accounts
// tells of, nothing, and one of each kind that none tells of.
func tellThings(name string, accounts ...impl.Account) []*thing {
	list := []*thing{nil, {text: "not told of"}, {action: []impl.Ins{literal("not told of"), ins(impl.OpEnd)}}}
	for _, a := range accounts {
		for _, d := range a.Deeds {
			if d.Name == name && d.Kind == 1 {
				list = append(list, &thing{text: d.Text})
			}
			if d.Name == name && d.Kind == 3 {
				list = append(list, &thing{action: d.Action.Code})
			}
		}
	}
	return list
}

// tellWhy is what Why must give: the names with two words for which there is no thing
// of which both are so.
func tellWhy(a, b impl.Account) []string {
	names, _ := tellNames(a)
	if others, _ := tellNames(b); len(others) == 0 {
		return nil
	}
	var why []string
	for _, name := range names {
		things := tellThings(name, a, b)
		parted := slices.ContainsFunc(tellWords(a, name), func(x word) bool {
			return slices.ContainsFunc(tellWords(b, name), func(y word) bool {
				return !slices.ContainsFunc(things, func(th *thing) bool { return x(th) && y(th) })
			})
		})
		if parted {
			why = append(why, name)
		}
	}
	return why
}

// whys asks Why of two accounts, both ways, and gives the answer.
func whys(t *testing.T, a, b impl.Account) []string {
	t.Helper()
	wasA, wasB := cloneAccount(a), cloneAccount(b)
	want := tellWhy(a, b)
	for _, got := range [][]string{impl.Why(a, b), impl.Why(b, a)} {
		if !slices.Equal(got, want) {
			t.Fatalf("why %.300q\nand %.300q\n%q, want %q", fmt.Sprint(a), fmt.Sprint(b), got, want)
		}
	}
	if !sameAccount(a, wasA) || !sameAccount(b, wasB) {
		t.Fatal("an argument has changed")
	}
	return want
}

// differs asks Why of two accounts for names, with a space between.
func differs(t *testing.T, a, b impl.Account, want string) {
	t.Helper()
	if got := strings.Join(whys(t, a, b), " "); got != want {
		t.Errorf("why %.300q\nand %.300q\n%q, want %q", fmt.Sprint(a), fmt.Sprint(b), got, want)
	}
}

// explains asks P11 of the accounts of one name in two spaces, and gives the names.
func explains(t *testing.T, one, other model, root string) []string {
	t.Helper()
	a, b := makes(t, one, root), makes(t, other, root)
	why := whys(t, a, b)
	if len(a.Deeds) == 0 || len(b.Deeds) == 0 {
		if len(why) > 0 {
			t.Fatalf("%s: %q without an account", root, why)
		}
		return why
	}
	if len(why) == 0 && !sameAccount(a, b) {
		t.Fatalf("%s: no name, but two accounts: %+v\n%+v", root, a, b)
	}
	for _, name := range why {
		if sameThing(one, other, name) {
			t.Fatalf("%s: %s, under which the same lies", root, name)
		}
	}
	return why
}

// targetOf is a deed of a target with an action.
func targetOf(name string, th thing, links ...impl.Link) impl.Deed {
	return impl.Deed{Name: name, Kind: 3, Action: th.program(), Links: links}
}

func TestWhyOfOneDeed(t *testing.T) {
	end, other := action(ins(impl.OpEnd)), action(literal("x"), ins(impl.OpEnd))
	list := []impl.Deed{sourceDeed("a", ""), sourceDeed("a", "x"), sourceDeed("a", "x "), noneDeed("a"), targetOf("a", end), targetOf("a", other)}
	for i, x := range list {
		for j, y := range list {
			want := "a"
			if i == j {
				want = ""
			}
			differs(t, account(x), account(y), want)
			// Of a name of which the other one says nothing nothing differs.
			y.Name = "b"
			differs(t, account(x), account(y), "")
			y.Name = "A"
			differs(t, account(x), account(y), "")
			y.Name = "aa"
			differs(t, account(x), account(y), "")
		}
	}
	// The end of a target is not told of it: it comes of its action and of what that looks at.
	x, y := targetOf("a", end), targetOf("a", end, hasLink("s", true))
	x.Code, x.Text = 2, "0"
	differs(t, account(x), account(y), "")
	y.Links = []impl.Link{hasLink("a", true)}
	differs(t, account(x), account(y), "")
}

func TestWhyOfActions(t *testing.T) {
	code := func() []impl.Ins {
		return []impl.Ins{literal("a"), ins(impl.OpCut, 1), ins(impl.OpUnless, 3), literal("b"), ins(impl.OpEnd)}
	}
	was := account(targetOf("t", action(code()...)))
	differs(t, was, account(targetOf("t", action(code()...))), "")
	for i := range code() {
		for _, in := range []impl.Ins{literal("c"), literal("a "), literal(""), ins(impl.OpCut, 2), ins(impl.OpRest, 1), ins(impl.OpUnless, 4), ins(impl.OpFail), ins(impl.OpDup)} {
			bent := code()
			bent[i] = in
			differs(t, was, account(targetOf("t", action(bent...))), "t")
		}
		differs(t, was, account(targetOf("t", action(code()[:i+1]...))), map[bool]string{true: "", false: "t"}[i == 4])
		differs(t, was, account(targetOf("t", action(append(code(), code()[i])...))), "t")
	}
	// Texts that are one when they stand side by side.
	differs(t, account(targetOf("t", action(literal("ab"), literal("c")))), account(targetOf("t", action(literal("a"), literal("bc")))), "t")
	differs(t, account(targetOf("t", action(literal("a\"\nlit \"b")))), account(targetOf("t", action(literal("a"), literal("b")))), "t")
	differs(t, account(targetOf("t", action(literal("\\00")))), account(targetOf("t", action(literal("\x00")))), "t")
	// Two names may change actions.
	x, y := action(ins(impl.OpEnd)), action(ins(impl.OpFail))
	differs(t, account(targetOf("p", x), targetOf("q", y, askLink("p", 0))), account(targetOf("p", y), targetOf("q", x, askLink("p", 0))), "p q")
	differs(t, account(targetOf("p", x), targetOf("q", y, askLink("p", 0))), account(targetOf("q", y), targetOf("p", x, askLink("q", 0))), "")
}

func TestWhyByALook(t *testing.T) {
	looks := func(links ...impl.Link) impl.Account { return account(targetDeed("t", links...)) }
	there, not := hasLink("a", true), hasLink("a", false)
	source, empty, none, target := account(sourceDeed("a", "x")), account(sourceDeed("a", "")), account(noneDeed("a")), account(targetDeed("a"))
	for _, c := range []struct {
		a, b impl.Account
		want string
	}{
		{looks(there), source, ""}, {looks(there), empty, ""}, {looks(there), target, ""}, {looks(there), none, "a"},
		{looks(not), source, "a"}, {looks(not), empty, "a"}, {looks(not), target, "a"}, {looks(not), none, ""},
		{looks(there), looks(there), ""}, {looks(not), looks(not), ""}, {looks(there), looks(not), "a"},
		{looks(there), looks(), ""}, {looks(not), looks(), ""}, {looks(there), looks(hasLink("b", false)), ""},
		{looks(not), looks(hasLink("b", true)), ""}, {looks(there, there), looks(there), ""},
		// One of many, wherever it stands.
		{looks(hasLink("b", true), hasLink("c", false), not), looks(there, hasLink("b", true), hasLink("c", true)), "a c"},
		{looks(hasLink("b", false), there), source, ""}, {looks(hasLink("b", false), not), source, "a"},
		// What a look tells of the target whose run it is, and of the root.
		{looks(hasLink("t", true)), looks(), ""}, {looks(hasLink("t", true)), account(sourceDeed("t", "")), "t"}, {looks(hasLink("t", true)), account(noneDeed("t")), "t"},
		// By a deed and a look in one account, by one of them in the other.
		{account(sourceDeed("a", "x"), targetDeed("t", askLink("a", 0), there)), looks(there), ""},
		{account(sourceDeed("a", "x"), targetDeed("t", there, askLink("a", 0))), looks(not), "a"},
		{account(sourceDeed("a", "x"), targetDeed("t", there, askLink("a", 0))), empty, "a"},
		{account(noneDeed("a"), targetDeed("t", not, askLink("a", 0))), looks(not), ""},
		{account(noneDeed("a"), targetDeed("t", not, askLink("a", 0))), looks(there), "a"},
		// An ask tells nothing but what its deed does.
		{account(sourceDeed("a", "x"), targetDeed("t", askLink("a", 0))), looks(there), ""},
		{account(noneDeed("a"), targetDeed("t", askLink("a", 0))), looks(not), ""},
		{account(noneDeed("a"), targetDeed("t", askLink("a", 0))), looks(there), "a"},
	} {
		differs(t, c.a, c.b, c.want)
	}
	// Accounts that say both of one name, as no space has it: they agree with none that tells of it, themselves included.
	both := looks(there, not)
	for _, a := range []impl.Account{source, none, target, looks(there), looks(not), both, account(noneDeed("a"), targetDeed("t", askLink("a", 0), there))} {
		differs(t, both, a, "a")
	}
	differs(t, both, looks(), "")
	torn := account(noneDeed("a"), targetDeed("t", askLink("a", 0), there))
	for _, a := range []impl.Account{source, none, target, looks(there), looks(not), torn} {
		differs(t, torn, a, "a")
	}
}

func TestWhyOfTheLedger(t *testing.T) {
	m := ledger()
	for _, c := range []struct {
		other model
		want  string
	}{
		{m, ""}, {m.with("unseen", thing{}), ""}, {m.with("there", thing{text: "other"}), ""}, {m.with("there", endless), ""}, {m.with("spare", thing{}), ""},
		{m.with("conf", thing{text: "part y"}), "conf"}, {m.with("conf", thing{text: "there x"}), "conf"}, {m.with("part", thing{text: "p"}), "part"}, {m.without("part"), "part"},
		{m.with("part", asks("there")), "part"}, {m.without("conf"), "conf"}, {m.without("there"), "there"}, {m.with("there2", thing{}), "there2"}, {m.with("there2", endless), "there2"},
		{m.with("none", thing{}), "none"}, {m.with("none", endless), "none"}, {m.without("spare"), "spare"}, {m.without("mid"), "mid"}, {m.with("mid", thing{text: "P"}), "mid"},
		{m.without("top"), "top"}, {m.with("top", thing{}), "top"}, {m.with("top", asks("mid")), "top"},
		{m.with("part", thing{}).without("there"), "part there"}, {m.with("part", thing{}).without("there").with("unseen", thing{}).with("there2", thing{}), "part there there2"},
		// Behind conf all is other: of what lay under part nothing is told any more.
		{m.with("conf", thing{text: "there x"}).with("part", thing{text: "p"}), "conf"},
		// Where mid fails, top looks no further.
		{m.with("conf", thing{text: "none x"}).without("spare").without("there"), "conf"},
		// There is no account where top is in a circle.
		{m.with("top", asks("top")), ""},
		{m.with("conf", thing{text: "top"}), ""},
	} {
		if got := strings.Join(explains(t, m, c.other, "top"), " "); got != c.want {
			t.Errorf("%q, want %q", got, c.want)
		}
	}
	// Accounts of two names.
	differs(t, makes(t, m, "opt"), makes(t, m, "top"), "")
	differs(t, makes(t, m.without("there"), "opt"), makes(t, m, "top"), "there")
	differs(t, makes(t, m.without("none"), "none"), makes(t, m.with("none", thing{}), "opt"), "none")
	differs(t, makes(t, m, "conf"), makes(t, m.with("mid", asks("none")), "top"), "")
}

// A name that a run reads out of a source, asks for, or looks for: told of by a deed in the one, by a look or not at all in the other.
func TestWhyOfDeedAndLook(t *testing.T) {
	// If opt is there, it is asked for, else it is only looked for.
	m := model{"opt": {text: "x"}, "t": action(literal("opt"), ins(impl.OpHas), ins(impl.OpUnless, 5), literal("opt"), ins(impl.OpAsk), literal("e"), ins(impl.OpEnd))}
	for _, c := range []struct {
		one, other model
		want       string
	}{
		{m, m.without("opt"), "opt"}, {m, m.with("opt", thing{text: "y"}), "opt"}, {m.with("opt", endless), m.without("opt"), "opt"}, {m.with("opt", endless), m, "opt"},
		{m.without("opt"), m.without("opt").with("x", thing{}), ""}, {m, m.with("x", thing{}), ""},
	} {
		if got := strings.Join(explains(t, c.one, c.other, "t"), " "); got != c.want {
			t.Errorf("%q, want %q", got, c.want)
		}
	}
	// how says how n is to be looked at: one asks for it, one looks whether it is there.
	either := action(literal("how"), ins(impl.OpAsk), ins(impl.OpUnless, 6), literal("n"), ins(impl.OpAsk), ins(impl.OpEnd), literal("n"), ins(impl.OpHas), ins(impl.OpEnd))
	m = model{"how": {text: "1"}, "n": {text: "x"}, "t": either}
	off := m.with("how", thing{text: "0"})
	for _, c := range []struct {
		one, other model
		want       string
	}{
		{m, off, "how"}, {m, off.without("n"), "how n"}, {m, off.with("n", endless), "how"}, {m.without("n"), off.without("n"), "how"},
		{m.without("n"), off, "how n"}, {m.with("n", endless), off, "how"}, {m.with("n", endless), off.without("n"), "how n"}, {m, m.without("n"), "n"},
	} {
		if got := strings.Join(explains(t, c.one, c.other, "t"), " "); got != c.want {
			t.Errorf("%q, want %q", got, c.want)
		}
	}
}

func TestWhyOfWhatIsNotValid(t *testing.T) {
	good, other := account(sourceDeed("s", "other")), account(noneDeed("s"))
	differs(t, good, other, "s")
	differs(t, good, impl.Account{}, "")
	differs(t, impl.Account{}, impl.Account{}, "")
	list, codes, _ := wrongAccounts()
	for i, a := range list {
		want := ""
		if codes[i] == 0 {
			want = "s"
		}
		differs(t, a, good, want)
		differs(t, a, other, want)
	}
	for _, d := range wrongDeeds() {
		differs(t, account(sourceDeed("s", ""), targetDeed("u", askLink("s", 0)), d), good, "")
	}
	differs(t, wide(impl.MaxDeeds), account(noneDeed("i000"), targetDeed("outer", askLink("i000", 0))), "i000 outer")
	differs(t, wide(impl.MaxDeeds+1), account(noneDeed("i000"), targetDeed("outer", askLink("i000", 0))), "")
	differs(t, chain(impl.MaxDepth, sourceDeed("s", "")), good, "s")
	differs(t, chain(impl.MaxDepth+1, sourceDeed("s", "")), good, "")
}

func TestWhyAtTheLimits(t *testing.T) {
	name, text := strings.Repeat("~", impl.MaxName), strings.Repeat("\xff", impl.MaxText)
	differs(t, account(sourceDeed(name, text)), account(sourceDeed(name, text[1:]+"\xfe")), name)
	differs(t, account(sourceDeed(name, text)), account(sourceDeed(name, text)), "")
	// The largest actions, of many names, that part in their last byte or not at all.
	big := func(last string) impl.Account {
		var a impl.Account
		root := targetDeed("root")
		for i := range impl.MaxLooks {
			code := slices.Repeat([]impl.Ins{literal(text)}, impl.MaxIns)
			if i == 150 {
				code[impl.MaxIns-1].Text = text[1:] + last
			}
			d := targetOf(fmt.Sprintf("b%03d", i), action(code...))
			a.Deeds = append(a.Deeds, d)
			root.Links = append(root.Links, askLink(d.Name, i))
		}
		return account(append(a.Deeds, root)...)
	}
	if got := impl.Why(big("\xff"), big("\xff")); len(got) != 0 {
		t.Errorf("%q", got)
	}
	if got := impl.Why(big("\xff"), big("\xfe")); !slices.Equal(got, []string{"b150"}) {
		t.Errorf("%q", got)
	}
	// As many names as there may be.
	a, b := crowd(impl.MaxDeeds), crowd(impl.MaxDeeds)
	if got := impl.Why(a, b); len(got) != 0 {
		t.Errorf("%q", got)
	}
	for i, d := range b.Deeds {
		d.Links[0].Has = !d.Links[0].Has && !d.Links[0].Ask
		b.Deeds[i].Text = "another end"
	}
	if got := impl.Why(a, b); len(got) != impl.MaxDeeds-1 || got[0] != "h000-000" || got[398] != "h398-000" {
		t.Errorf("%.300q", got)
	}
}

// All pairs of some hundred small accounts, also such as no run gives.
func TestWhyOfAllSmallAccounts(t *testing.T) {
	end, other := action(ins(impl.OpEnd)), action(literal("a"), ins(impl.OpAsk), ins(impl.OpEnd))
	looks := [][]impl.Link{nil, {hasLink("a", true)}, {hasLink("a", false)}, {hasLink("b", true)}, {hasLink("b", false), hasLink("a", true)}, {hasLink("a", true), hasLink("a", false)}}
	list := []impl.Account{account(noneDeed("a")), account(sourceDeed("a", "")), account(sourceDeed("a", "x")), account(noneDeed("b")), account(sourceDeed("b", ""))}
	for _, links := range looks {
		for _, th := range []thing{end, other} {
			b := targetOf("b", th, links...)
			list = append(list, account(targetOf("a", th, links...)), account(b))
			b.Links = append([]impl.Link{askLink("a", 0)}, links...)
			for _, a := range []impl.Deed{noneDeed("a"), sourceDeed("a", ""), sourceDeed("a", "x"), targetOf("a", end), targetOf("a", other, hasLink("b", false))} {
				list = append(list, account(a, b))
			}
		}
	}
	seen := map[string]int{}
	for _, a := range list {
		for _, b := range list {
			seen[strings.Join(whys(t, a, b), " ")]++
		}
	}
	for _, names := range []string{"", "a", "b", "a b"} {
		if seen[names] < 500 {
			t.Errorf("too few pairs for %q: %v", names, seen)
		}
	}
}

func TestWhyAtRandom(t *testing.T) {
	r := rand.New(rand.NewSource(12))
	for range 8000 {
		a := freed(r)
		whys(t, a, freed(r))
		whys(t, a, bent(r, a))
	}
	names := []string{"a", "b", "c", "d", "e", "f", "x"}
	// It looks whether each of them is there, and goes on to one.
	var watch []impl.Ins
	for _, name := range names {
		watch = append(watch, literal(name), ins(impl.OpHas), ins(impl.OpDrop))
	}
	seen := map[int]int{}
	for range 2500 {
		one := randomModel(r, names).with("w", action(slices.Concat(watch, asks(names[r.Intn(4)]).action)...))
		other := one
		for range 1 + r.Intn(5) {
			// Mostly what others look at, so that there is more to be told than the root.
			name := names[max(r.Intn(len(names)), r.Intn(len(names)))]
			switch r.Intn(4) {
			case 0:
				other = other.without(name)
			case 1:
				other = other.with(name, thing{text: []string{"a", "b c", "", "x", "e"}[r.Intn(5)]})
			default:
				other = other.with(name, randomAction(r, names))
			}
		}
		for _, root := range append(names, "w") {
			seen[len(explains(t, one, other, root))]++
		}
	}
	for n := range 4 {
		if seen[n] < 50 {
			t.Errorf("too few answers of %d names: %v", n, seen)
		}
	}
}

func TestInfluenceKeepsItsArguments(t *testing.T) {
	links := append(make([]impl.Link, 0, 4), askLink("s", 0), hasLink("q", true), hasLink("behind", true))
	code := append(make([]impl.Ins, 0, 4), ins(impl.OpEnd), literal("behind"))
	d := impl.Deed{Name: "t", Kind: 3, Action: impl.Program{Code: code[:1]}, Links: links[:2]}
	a := impl.Account{Deeds: append(make([]impl.Deed, 0, 5), sourceDeed("s", "x"), d, noneDeed("behind"))[:2]}
	b := account(noneDeed("s"), targetOf("t", action(ins(impl.OpFail)), askLink("s", 0), hasLink("q", false)))
	was, wasB := wholeAccount(a), wholeAccount(b)
	calls := []func() []string{
		func() []string { return impl.Names(a) }, func() []string { return impl.Sources(a) }, func() []string { return impl.Depends(a, "s") },
		func() []string { return impl.Why(a, b) }, func() []string { return impl.Why(b, a) }, func() []string { return impl.Why(a, a) },
	}
	for i, want := range []string{"q s t", "s", "t", "q s t", "q s t", ""} {
		first, second := calls[i](), calls[i]()
		for j := range first[:cap(first)] {
			first[:cap(first)][j] = "scribbled"
		}
		if got := strings.Join(second, " "); got != want || strings.Join(calls[i](), " ") != want {
			t.Errorf("%d: %q, want %q", i, got, want)
		}
	}
	if !sameAccount(wholeAccount(a), was) || !sameAccount(wholeAccount(b), wasB) {
		t.Error("written into an argument or behind its end")
	}
}
