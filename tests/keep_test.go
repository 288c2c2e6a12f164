package tests

import (
	"fmt"
	"math/rand"
	"slices"
	"strings"
	"testing"

	"loop.example/kilndeed/impl"
)

// tellResult is what a deed tells of its name.
func tellResult(d impl.Deed) string {
	if d.Kind == 2 {
		return "4:" + d.Name
	}
	return fmt.Sprintf("%d:%s", d.Code, d.Text)
}

// tellTexts, tellCover and tellStale are what Texts, Cover and Stale must give.
func tellTexts(list []impl.Account) []string {
	var texts []string
	for _, a := range list {
		if c, _ := tellCheck(a); c != 0 || len(list) > 50 {
			continue
		}
		for _, d := range a.Deeds {
			texts = append(texts, tellResult(d))
		}
	}
	slices.Sort(texts)
	return slices.Compact(texts)
}

func tellCover(list []impl.Account, name string) []int {
	var numbers []int
	for i, a := range list {
		if names, _ := tellNames(a); slices.Contains(names, name) && len(list) <= 50 {
			numbers = append(numbers, i)
		}
	}
	return numbers
}

// tellStale asks for what is made anew, not for an audit.
func tellStale(list []impl.Account, m model) []int {
	var numbers []int
	for i, a := range list {
		made := impl.Account{}
		if n := len(a.Deeds); n > 0 && nameByBytes(a.Deeds[n-1].Name) {
			made, _ = tellMake(m, a.Deeds[n-1].Name)
		}
		if len(list) <= 50 && (len(made.Deeds) == 0 || !sameAccount(made, a)) {
			numbers = append(numbers, i)
		}
	}
	return numbers
}

// keeps asks P14 and P15 of a list of accounts in a valid space.
func keeps(t *testing.T, list []impl.Account, m model, names ...string) {
	t.Helper()
	sp := m.space()
	was := make([]impl.Account, len(list))
	for i, a := range list {
		was[i] = cloneAccount(a)
	}
	if got, want := impl.Texts(list), tellTexts(list); !slices.Equal(got, want) {
		t.Fatalf("texts %.300q, want %.300q", got, want)
	}
	for _, name := range append(names, "", "no such name", "nosuchname") {
		if got, want := impl.Cover(list, name), tellCover(list, name); !slices.Equal(got, want) {
			t.Fatalf("cover of %.70q: %v, want %v", name, got, want)
		}
	}
	stale := impl.Stale(list, sp)
	if want := tellStale(list, m); !slices.Equal(stale, want) {
		t.Fatalf("stale %v, want %v", stale, want)
	}
	for i, a := range list {
		if !sameAccount(a, was[i]) {
			t.Fatalf("account %d has changed", i)
		}
		if !slices.Contains(stale, i) && len(list) <= 50 {
			shows(t, list, a, m)
		}
	}
	if !sameSpace(sp, m.space()) {
		t.Fatal("the space has changed")
	}
}

// shows asks the second half of P14 of one account that is accepted, and gives how
// many of its names can not be made by themselves.
func shows(t *testing.T, list []impl.Account, a impl.Account, m model) int {
	t.Helper()
	texts := impl.Texts(list)
	deep := 0
	for _, d := range a.Deeds {
		clean := impl.Clean(m.space(), d.Name)
		if clean.Code == impl.Deep {
			deep++
		} else if s := impl.FormResult(clean); s != tellResult(d) {
			t.Fatalf("%s is %q, but the account tells %q", d.Name, s, tellResult(d))
		}
		if !slices.Contains(texts, tellResult(d)) {
			t.Fatalf("%q is not kept", tellResult(d))
		}
	}
	return deep
}

func numbersAre(t *testing.T, what string, got []int, want ...int) {
	t.Helper()
	if !slices.Equal(got, want) {
		t.Errorf("%s: %v, want %v", what, got, want)
	}
}

func textsAre(t *testing.T, got []string, want ...string) {
	t.Helper()
	if !slices.Equal(got, want) {
		t.Errorf("%.300q, want %.300q", got, want)
	}
}

func TestTextsOfTheLedger(t *testing.T) {
	m := ledger()
	top, opt, spare := makes(t, m, "top"), makes(t, m, "opt"), makes(t, m, "spare")
	textsAre(t, impl.Texts([]impl.Account{top}), "0:P", "0:part x", "4:none", "5:opt")
	textsAre(t, impl.Texts([]impl.Account{opt}), "4:none")
	textsAre(t, impl.Texts([]impl.Account{opt, spare, opt}), "4:none")
	textsAre(t, impl.Texts([]impl.Account{spare, {}, makes(t, m, "conf"), account(noneDeed("")), makes(t, m, "x")}), "0:part x", "4:none", "4:x")
	textsAre(t, impl.Texts(nil))
	textsAre(t, impl.Texts([]impl.Account{}))
	textsAre(t, impl.Texts([]impl.Account{{}, {}}))
	keeps(t, []impl.Account{top, opt, spare, {}}, m, impl.Names(top)...)
}

func TestTextsOfEachResult(t *testing.T) {
	one := func(a impl.Account, want ...string) {
		t.Helper()
		textsAre(t, impl.Texts([]impl.Account{a}), want...)
	}
	long := strings.Repeat("\xff", impl.MaxText)
	one(account(sourceDeed("s", "")), "0:")
	one(account(sourceDeed("s", allBytes())), "0:"+allBytes())
	one(account(sourceDeed("s", long)), "0:"+long)
	one(account(noneDeed("n")), "4:n")
	for code := range 6 {
		for _, text := range []string{"", "x", ":", "\n", long} {
			d := targetDeed("t")
			d.Code, d.Text = code, text
			one(account(d), fmt.Sprintf("%d:%s", code, text))
		}
	}
	// A target that ends Missing tells the name that it missed, a name of nothing itself.
	d := targetDeed("t", askLink("n", 0))
	d.Code, d.Text = 4, "n"
	one(account(noneDeed("n"), d), "4:n")
	d.Text = "other"
	one(account(noneDeed("n"), d), "4:n", "4:other")
	// Ascending byte by byte, each once, whatever they are the results of.
	var a impl.Account
	root := targetDeed("root")
	for i, text := range []string{"b", "a", "", "aa", "a!", "B", "\xff", "\x00", "10", "9", "a", "b", "ä"} {
		a.Deeds = append(a.Deeds, sourceDeed(fmt.Sprint("s", i), text))
		root.Links = append(root.Links, askLink(fmt.Sprint("s", i), i))
	}
	root.Code, root.Text = 1, "a"
	one(account(append(a.Deeds, root)...), "0:", "0:\x00", "0:10", "0:9", "0:B", "0:a", "0:a!", "0:aa", "0:b", "0:ä", "0:\xff", "1:a")
}

// A result that an account tells is there also where the name can not be made by itself.
func TestTextsOfWhatIsDeepByItself(t *testing.T) {
	m := twin(40, 40).with("h000", action(literal("h001"), ins(impl.OpAsk), literal("!"), ins(impl.OpCat), ins(impl.OpEnd)))
	a := makes(t, m, "root")
	list := []impl.Account{a}
	keeps(t, list, m, "h000", "l000", "src")
	if deep := shows(t, list, a, m); deep != 20 {
		t.Errorf("%d names are too deep", deep)
	}
	textsAre(t, impl.Texts(list), "0:x", "0:x!")
	if r := impl.Clean(m.space(), "h000"); r.Code != impl.Deep {
		t.Errorf("%+v", r)
	}
}

func TestCoverOfTheLedger(t *testing.T) {
	m := ledger()
	wrong := cloneAccount(makes(t, m, "top"))
	wrong.Deeds[0].Code = 1
	list := []impl.Account{makes(t, m, "top"), makes(t, m, "mid"), wrong, {}, makes(t, m, "opt"), makes(t, m, "spare"), makes(t, m, "none"), makes(t, m, "top")}
	for name, want := range map[string][]int{
		"top": {0, 7}, "mid": {0, 1, 7}, "conf": {0, 1, 7}, "opt": {0, 4, 7}, "none": {0, 4, 5, 6, 7}, "there": {0, 4, 7}, "there2": {0, 4, 7}, "spare": {0, 5, 7},
		"": nil, "P": nil, "part x": nil, "no": nil, "nonee": nil, "NONE": nil,
	} {
		numbersAre(t, name, impl.Cover(list, name), want...)
	}
	keeps(t, list, m, impl.Names(list[0])...)
	for _, name := range append(wrongNames, "top") {
		numbersAre(t, name, impl.Cover(nil, name))
		numbersAre(t, name, impl.Cover([]impl.Account{{}, wrong}, name))
	}
}

func TestStaleInChangedSpaces(t *testing.T) {
	m := ledger()
	wrong := cloneAccount(makes(t, m, "top"))
	wrong.Deeds[5].Text = "mid"
	list := []impl.Account{makes(t, m, "top"), makes(t, m, "mid"), makes(t, m, "opt"), makes(t, m, "spare"), makes(t, m, "none"), makes(t, m, "conf"), wrong, {}}
	for _, c := range []struct {
		m    model
		want []int
	}{
		{m, []int{6, 7}},
		{m.with("conf", thing{text: "part y"}), []int{0, 1, 5, 6, 7}},
		{m.with("part", thing{text: "Q"}), []int{0, 1, 6, 7}},
		{m.with("none", thing{text: ""}), []int{0, 2, 3, 4, 6, 7}},
		{m.with("none", endless), []int{0, 2, 3, 4, 6, 7}},
		{m.with("there2", thing{}), []int{0, 2, 6, 7}},
		{m.with("there", endless), []int{6, 7}},
		{m.without("there"), []int{0, 2, 6, 7}},
		{m.without("spare"), []int{0, 3, 6, 7}},
		{m.with("spare", thing{}), []int{3, 6, 7}},
		{m.with("unseen", endless), []int{6, 7}},
		{m.without("top"), []int{0, 6, 7}},
		// Made anew there would be no account: a circle, and one that is too deep.
		{m.with("mid", asks("top")), []int{0, 1, 6, 7}},
		{m.with("top", asks("top")), []int{0, 6, 7}},
		{m.with("top", thing{text: "none"}), []int{0, 6, 7}},
		{model{}, []int{0, 1, 2, 3, 5, 6, 7}},
	} {
		numbersAre(t, fmt.Sprint(c.m), impl.Stale(list, c.m.space()), c.want...)
		keeps(t, list, c.m, "conf", "none")
	}
	tall := makes(t, tower(impl.MaxDepth, "src"), "t000")
	numbersAre(t, "tall", impl.Stale([]impl.Account{tall}, tower(impl.MaxDepth, "src").space()))
	numbersAre(t, "too tall", impl.Stale([]impl.Account{tall}, tower(impl.MaxDepth, "t060").with("t060", asks("src")).space()), 0)
	numbersAre(t, "none", impl.Stale(nil, m.space()))
	numbersAre(t, "none", impl.Stale([]impl.Account{}, m.space()))
}

func TestNumberOfAccounts(t *testing.T) {
	m := ledger()
	a := makes(t, m, "top")
	for _, n := range []int{1, 49, 50} {
		list := slices.Repeat([]impl.Account{a}, n)
		list[n-1] = account(sourceDeed("last", "z"))
		if n > 1 {
			textsAre(t, impl.Texts(list), "0:P", "0:part x", "0:z", "4:none", "5:opt")
		}
		numbersAre(t, "last", impl.Cover(list, "last"), n-1)
		numbersAre(t, "last", impl.Stale(list, m.space()), n-1)
		if got := impl.Cover(list, "top"); len(got) != n-1 {
			t.Errorf("%v", got)
		}
		if got := impl.Stale(list, model{}.space()); len(got) != n {
			t.Errorf("%v", got)
		}
		keeps(t, list, m, "top", "last")
	}
	for _, n := range []int{51, 52, 100, 1000} {
		for _, one := range []impl.Account{a, {}} {
			list := slices.Repeat([]impl.Account{one}, n)
			list[0] = account(sourceDeed("first", "z"))
			textsAre(t, impl.Texts(list))
			for _, name := range []string{"first", "top", ""} {
				numbersAre(t, name, impl.Cover(list, name))
			}
			numbersAre(t, "stale", impl.Stale(list, m.space()))
			numbersAre(t, "stale", impl.Stale(list, impl.Space{}))
			keeps(t, list, m, "first", "top")
		}
	}
	// Accounts that are not valid are accounts of the list, too.
	numbersAre(t, "none valid", impl.Stale(make([]impl.Account, 3), m.space()), 0, 1, 2)
	if got := impl.Stale(make([]impl.Account, 50), m.space()); len(got) != 50 {
		t.Errorf("%v", got)
	}
}

func TestStaleInWhatIsNotValid(t *testing.T) {
	spaces, faults := wrongSpaces()
	list := []impl.Account{account(sourceDeed("a", "x")), account(sourceDeed("a", "other")), {}, account(noneDeed("none"))}
	for i, sp := range spaces {
		if faults[i] == 0 {
			numbersAre(t, "valid", impl.Stale(list, sp), 1, 2)
			continue
		}
		numbersAre(t, fmt.Sprint("code ", faults[i]), impl.Stale(list, sp))
		numbersAre(t, fmt.Sprint("code ", faults[i]), impl.Stale(nil, sp))
	}
	full := many(impl.MaxThings, thing{text: "x"})
	numbersAre(t, "full", impl.Stale(list, full.space()), 0, 1, 2)
	numbersAre(t, "too full", impl.Stale(list, full.with("z", thing{}).space()))
}

func TestKeepingWhatIsNotValid(t *testing.T) {
	accounts, codes, _ := wrongAccounts()
	for _, d := range wrongDeeds() {
		accounts, codes = append(accounts, account(sourceDeed("s", ""), targetDeed("u", askLink("s", 0)), d)), append(codes, 2)
	}
	good := account(sourceDeed("good", "fine"))
	m := model{"good": {text: "fine"}, "s": {text: "x"}}
	for i, a := range accounts {
		list := []impl.Account{a, good, a}
		keeps(t, list, m, "s", "good", "u", "t", "root")
		if codes[i] == 0 {
			continue
		}
		textsAre(t, impl.Texts(list), "0:fine")
		numbersAre(t, "s", impl.Cover(list, "s"))
		numbersAre(t, "good", impl.Cover(list, "good"), 1)
		numbersAre(t, "stale", impl.Stale(list, m.space()), 0, 2)
	}
}

func TestKeepingAtRandom(t *testing.T) {
	r := rand.New(rand.NewSource(17))
	names := []string{"a", "b", "c", "d", "e", "f", "x"}
	fresh, stale := 0, 0
	for range 1200 {
		m := randomModel(r, names)
		other := m
		for range r.Intn(3) {
			other = other.with(names[r.Intn(len(names))], randomAction(r, names))
			other = other.without(names[r.Intn(len(names))])
		}
		var list []impl.Account
		for range r.Intn(12) {
			a, _ := impl.Make([]impl.Space{m.space(), other.space()}[r.Intn(2)], names[r.Intn(len(names))])
			if len(a.Deeds) > 0 && r.Intn(4) == 0 {
				a = bent(r, a)
			}
			list = append(list, a)
		}
		keeps(t, list, m, names...)
		keeps(t, list, other, names...)
		n := len(impl.Stale(list, other.space()))
		fresh, stale = fresh+len(list)-n, stale+n
	}
	if fresh < 1500 || stale < 1500 {
		t.Errorf("too few accounts of a kind: %d fresh, %d stale", fresh, stale)
	}
}

// The largest lists, asked again and again: the answer does not hang on who is ready first.
func TestKeepingAtTheLimits(t *testing.T) {
	m := model{"all": reads("s000"), "loop": action(ins(impl.OpJump, 0))}
	for _, s := range row("s", impl.MaxThings-2) {
		m[s.Name] = thing{text: s.Text}
	}
	heavy, light, slow := makes(t, m, "all"), makes(t, m, "s001"), makes(t, m, "loop")
	gone := cloneAccount(heavy)
	gone.Deeds[len(gone.Deeds)-1].Text = "gone"
	var list []impl.Account
	var want []int
	for i := range impl.MaxAccounts {
		list = append(list, []impl.Account{heavy, light, gone, slow, {}}[i%5])
		if i%5 == 2 || i%5 == 4 {
			want = append(want, i)
		}
	}
	sp := m.space()
	for range 60 {
		numbersAre(t, "stale", impl.Stale(list, sp), want...)
	}
	if got := impl.Texts(list); len(got) != impl.MaxThings-2+2 {
		t.Errorf("%d texts", len(got))
	}
	big := slices.Repeat([]impl.Account{crowd(impl.MaxDeeds)}, impl.MaxAccounts)
	numbersAre(t, "last", impl.Cover(big[:3], "h398-198"), 0, 1, 2)
	if got := impl.Cover(big, "c399"); len(got) != impl.MaxAccounts {
		t.Errorf("%v", got)
	}
	textsAre(t, impl.Texts(big), "0:")
	if got := impl.Stale(big, sp); len(got) != impl.MaxAccounts {
		t.Errorf("%v", got)
	}
}

func TestKeepingWritesNothingIntoItsArguments(t *testing.T) {
	sp := spareSpace()
	links := append(make([]impl.Link, 0, 3), hasLink("behind", true), hasLink("behind", true))
	b := impl.Deed{Name: "b", Kind: 3, Code: 3, Action: sp.Targets[0].Action, Links: links[:0]}
	a := impl.Account{Deeds: append(make([]impl.Deed, 0, 5), b, noneDeed("behind"))[:1]}
	list := append(make([]impl.Account, 0, 5), a, account(noneDeed("x")), a, account(noneDeed("behind")))[:3]
	wasSpace, was := wholeSpace(sp), wholeAccount(a)
	first, numbers, stale := impl.Texts(list), impl.Cover(list, "b"), impl.Stale(list, impl.Space{})
	for i := range first[:cap(first)] {
		first[:cap(first)][i] = "scribbled"
	}
	for _, answer := range [][]int{numbers, stale} {
		for i := range answer[:cap(answer)] {
			answer[:cap(answer)][i] = -1
		}
	}
	textsAre(t, impl.Texts(list), "3:", "4:x")
	numbersAre(t, "b", impl.Cover(list, "b"), 0, 2)
	numbersAre(t, "stale", impl.Stale(list, impl.Space{}), 0, 2)
	numbersAre(t, "stale", impl.Stale(list, sp))
	if !sameSpace(wholeSpace(sp), wasSpace) || !sameAccount(wholeAccount(a), was) || !sameAccount(list[:4][3], account(noneDeed("behind"))) {
		t.Error("written into an argument or behind its end")
	}
}
