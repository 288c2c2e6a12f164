package tests

import (
	"fmt"
	"math/rand"
	"slices"
	"strings"
	"testing"

	"loop.example/kilndeed/impl"
)

func account(deeds ...impl.Deed) impl.Account { return impl.Account{Deeds: deeds} }

func sourceDeed(name, text string) impl.Deed { return impl.Deed{Name: name, Kind: 1, Text: text} }

func noneDeed(name string) impl.Deed { return impl.Deed{Name: name, Kind: 2} }

// targetDeed is right as a deed, whatever its run would do.
func targetDeed(name string, links ...impl.Link) impl.Deed {
	return impl.Deed{Name: name, Kind: 3, Action: program(ins(impl.OpEnd)), Links: links}
}

func askLink(name string, at int) impl.Link { return impl.Link{Name: name, Ask: true, At: at} }

func hasLink(name string, has bool) impl.Link { return impl.Link{Name: name, Has: has} }

func sameAccount(a, b impl.Account) bool {
	return slices.EqualFunc(a.Deeds, b.Deeds, func(x, y impl.Deed) bool {
		return x.Name == y.Name && x.Kind == y.Kind && x.Code == y.Code && x.Text == y.Text && sameProgram(x.Action, y.Action) && slices.Equal(x.Links, y.Links)
	})
}

func cloneAccount(a impl.Account) impl.Account {
	out := impl.Account{Deeds: slices.Clone(a.Deeds)}
	for i, d := range out.Deeds {
		out.Deeds[i].Action.Code, out.Deeds[i].Links = slices.Clone(d.Action.Code), slices.Clone(d.Links)
	}
	return out
}

// checks asks CheckAccount for one answer, and that it leaves its argument alone.
func checks(t *testing.T, a impl.Account, code, at int) {
	t.Helper()
	was := cloneAccount(a)
	if c, k := impl.CheckAccount(a); c != code || k != at {
		t.Errorf("%.300q: %d at %d, want %d at %d", fmt.Sprint(a), c, k, code, at)
	}
	if !sameAccount(a, was) {
		t.Errorf("%.300q: the argument has changed", fmt.Sprint(a))
	}
}

func TestValidAccounts(t *testing.T) {
	long := strings.Repeat("\xff", impl.MaxText)
	name := strings.Repeat("~", impl.MaxName)
	failed := targetDeed("t", hasLink(name, true), hasLink("t", false), hasLink("t", true))
	failed.Code, failed.Text = 5, long
	for _, a := range []impl.Account{
		account(sourceDeed("s", "")), account(sourceDeed(name, long)), account(sourceDeed("!", allBytes())), account(noneDeed("n")), account(noneDeed(name)),
		account(targetDeed("t")), account(failed),
		account(sourceDeed("s", ""), targetDeed("t", askLink("s", 0))),
		account(sourceDeed(name, ""), targetDeed("t", askLink(name, 0), askLink(name, 0), hasLink(name, false))),
		account(targetDeed("a"), targetDeed("b", askLink("a", 0)), targetDeed("c", askLink("b", 1), askLink("a", 0))),
		account(targetDeed("a"), targetDeed("b", askLink("a", 0)), targetDeed("c", askLink("a", 0), askLink("b", 1))),
		account(noneDeed("n"), targetDeed("a", askLink("n", 0)), sourceDeed("s", "x"), targetDeed("c", askLink("a", 1), hasLink("n", true), askLink("s", 2), askLink("n", 0))),
		// What no run would do is told by Follows, not here.
		account(noneDeed("n"), noneDeed("m"), targetDeed("t", askLink("n", 0), askLink("m", 1))),
	} {
		checks(t, a, 0, 0)
	}
	empty := impl.Deed{Name: "s", Kind: 1, Action: impl.Program{Code: []impl.Ins{}}, Links: []impl.Link{}}
	checks(t, account(empty), 0, 0)
	empty.Kind = 2
	checks(t, account(empty), 0, 0)
}

// wrongDeeds are not right at the place 2 behind a source s and a target u.
func wrongDeeds() []impl.Deed {
	var list []impl.Deed
	spoiled := func(d impl.Deed, change func(d *impl.Deed)) {
		change(&d)
		list = append(list, d)
	}
	for _, d := range []impl.Deed{sourceDeed("d", "x"), noneDeed("d"), targetDeed("d", askLink("s", 0), askLink("u", 1))} {
		for _, name := range wrongNames {
			spoiled(d, func(d *impl.Deed) { d.Name = name })
		}
		for _, code := range []int{-1 << 63, -1, 6, 7, 9, 1<<63 - 1} {
			spoiled(d, func(d *impl.Deed) { d.Code = code })
		}
		for _, kind := range []int{-1 << 63, -1, 0, 4, 1<<63 - 1} {
			spoiled(d, func(d *impl.Deed) { d.Kind = kind })
		}
		for _, size := range []int{2001, 100000} {
			spoiled(d, func(d *impl.Deed) { d.Text = strings.Repeat("x", size) })
		}
	}
	for _, d := range []impl.Deed{sourceDeed("d", ""), noneDeed("d")} {
		for code := 1; code <= 5; code++ {
			spoiled(d, func(d *impl.Deed) { d.Code = code })
		}
		spoiled(d, func(d *impl.Deed) { d.Action = program(ins(impl.OpEnd)) })
		spoiled(d, func(d *impl.Deed) { d.Action = program(impl.Ins{}) })
		spoiled(d, func(d *impl.Deed) { d.Links = []impl.Link{askLink("s", 0)} })
		spoiled(d, func(d *impl.Deed) { d.Links = []impl.Link{{}} })
	}
	spoiled(noneDeed("d"), func(d *impl.Deed) { d.Text = "x" })
	for _, p := range wrongPrograms() {
		spoiled(targetDeed("d"), func(d *impl.Deed) { d.Action = p })
	}
	wrong := []impl.Link{
		{Name: "s", Ask: true, Has: true}, askLink("u", 0), askLink("s", 1), askLink("s", -1), askLink("s", -1<<63), askLink("d", 2), askLink("s", 2), askLink("behind", 3),
		askLink("s", 3), askLink("s", 1<<63-1), askLink("none", 0), {Name: "s", At: 1}, {Name: "s", Has: true, At: 1}, {Name: "u", At: 1}, {Name: "s", At: -1}, {Name: "s", At: 1 << 40},
	}
	for _, name := range wrongNames {
		wrong = append(wrong, askLink(name, 0), hasLink(name, false), hasLink(name, true))
	}
	for _, link := range wrong {
		spoiled(targetDeed("d"), func(d *impl.Deed) { d.Links = []impl.Link{link} })
		spoiled(targetDeed("d"), func(d *impl.Deed) { d.Links = []impl.Link{askLink("s", 0), askLink("u", 1), link, hasLink("z", true)} })
	}
	spoiled(targetDeed("d"), func(d *impl.Deed) { d.Links = slices.Repeat([]impl.Link{hasLink("z", true)}, 201) })
	spoiled(targetDeed("d"), func(d *impl.Deed) { d.Links = slices.Repeat([]impl.Link{askLink("s", 0)}, 201) })
	return list
}

func TestDeedsThatAreNotRight(t *testing.T) {
	for _, d := range wrongDeeds() {
		a := account(sourceDeed("s", ""), targetDeed("u", askLink("s", 0)), d)
		checks(t, a, 2, 2)
		// The first of them is told, and ahead of every other fault.
		checks(t, account(append(a.Deeds, noneDeed("behind"), impl.Deed{}, sourceDeed("s", ""))...), 2, 2)
		checks(t, account(sourceDeed("s", ""), targetDeed("u"), d, d), 2, 2)
	}
	checks(t, account(impl.Deed{}), 2, 0)
	checks(t, account(noneDeed("n"), impl.Deed{}), 2, 1)
	checks(t, account(targetDeed("t", askLink("t", 0))), 2, 0)
	checks(t, account(targetDeed("t", askLink("n", 1)), noneDeed("n")), 2, 0)
	// A name that is none is one at its own deed, not first at who asks for it.
	checks(t, account(sourceDeed("s", ""), sourceDeed("a b", ""), targetDeed("t", askLink("a b", 1))), 2, 1)
}

func TestNamesToldOfTwice(t *testing.T) {
	s, n := sourceDeed("s", "x"), noneDeed("n")
	checks(t, account(s, s), 3, 1)
	checks(t, account(s, n, s), 3, 2)
	checks(t, account(s, n, n, s), 3, 2)
	checks(t, account(s, n, noneDeed("s"), n), 3, 2)
	checks(t, account(s, targetDeed("s", askLink("s", 0))), 3, 1)
	checks(t, account(s, sourceDeed("s", "y"), targetDeed("t", askLink("s", 0), askLink("s", 1))), 3, 1)
	checks(t, account(s, targetDeed("t", askLink("s", 0)), targetDeed("t", askLink("t", 1))), 3, 2)
	// Names are the same byte for byte, or they are others.
	checks(t, account(sourceDeed("s", ""), sourceDeed("S", ""), sourceDeed("ss", ""), targetDeed("t", askLink("s", 0), askLink("S", 1), askLink("ss", 2))), 0, 0)
}

func TestOrderOfMaking(t *testing.T) {
	s, n := sourceDeed("s", "x"), noneDeed("n")
	for _, c := range []struct {
		at    int
		deeds []impl.Deed
	}{
		{0, []impl.Deed{s, n}},
		{0, []impl.Deed{s, targetDeed("t")}},
		{0, []impl.Deed{s, targetDeed("t", hasLink("s", true))}},
		{0, []impl.Deed{targetDeed("t", hasLink("s", true)), s}},
		{0, []impl.Deed{s, n, targetDeed("t", askLink("n", 1), askLink("s", 0))}},
		{1, []impl.Deed{s, n, targetDeed("t", askLink("s", 0))}},
		{1, []impl.Deed{s, n, targetDeed("t", askLink("s", 0), hasLink("n", false))}},
		{0, []impl.Deed{s, n, targetDeed("t", askLink("n", 1))}},
		{2, []impl.Deed{s, n, sourceDeed("r", ""), targetDeed("t", askLink("s", 0), askLink("n", 1))}},
		// b is asked for first, and asks for c itself: c, b.
		{0, []impl.Deed{s, targetDeed("c"), targetDeed("b", askLink("c", 1)), targetDeed("t", askLink("b", 2), askLink("s", 0))}},
		{0, []impl.Deed{targetDeed("b"), targetDeed("c"), targetDeed("t", askLink("c", 1), askLink("b", 0))}},
		{1, []impl.Deed{s, targetDeed("c"), targetDeed("b", askLink("s", 0)), targetDeed("t", askLink("b", 2), askLink("c", 1))}},
		// u is made for t alone behind v, though it could stand ahead of it.
		{0, []impl.Deed{targetDeed("u", hasLink("v", true)), targetDeed("v"), targetDeed("t", askLink("v", 1), askLink("u", 0))}},
		// The account goes on behind what it is of.
		{2, []impl.Deed{s, targetDeed("t", askLink("s", 0)), targetDeed("v"), targetDeed("w", askLink("t", 1))}},
		{0, []impl.Deed{s, targetDeed("t", askLink("s", 0)), targetDeed("v")}},
	} {
		checks(t, account(c.deeds...), 4, c.at)
	}
}

// reads is an action that asks for a name, then for the name that it finds there, and
// so on until it finds the empty text.
func reads(name string) thing {
	return action(literal(name), ins(impl.OpAsk), ins(impl.OpDup), ins(impl.OpUnless, 5), ins(impl.OpJump, 1), ins(impl.OpEnd))
}

// row are sources of the given number, each with the name of the next as its text.
func row(prefix string, n int) []impl.Source {
	list := make([]impl.Source, n)
	for i := range list {
		list[i].Name = fmt.Sprintf("%s%03d", prefix, i)
		if i > 0 {
			list[i-1].Text = list[i].Name
		}
	}
	return list
}

// wide is an account that follows, of the given number of deeds (203 to 402): a target
// reads 200 sources, and one asks for it and reads the other ones.
func wide(n int) impl.Account {
	inner := impl.Deed{Name: "inner", Kind: 3, Action: program(reads("i000").action...)}
	outer := impl.Deed{Name: "outer", Kind: 3, Action: program(literal("inner"), ins(impl.OpAsk), ins(impl.OpDrop),
		literal("o000"), ins(impl.OpAsk), ins(impl.OpDup), ins(impl.OpUnless, 8), ins(impl.OpJump, 4), ins(impl.OpEnd))}
	var a impl.Account
	for i, s := range row("i", 200) {
		a.Deeds = append(a.Deeds, sourceDeed(s.Name, s.Text))
		inner.Links = append(inner.Links, askLink(s.Name, i))
	}
	a.Deeds = append(a.Deeds, inner)
	outer.Links = append(outer.Links, askLink("inner", 200))
	for i, s := range row("o", n-202) {
		a.Deeds = append(a.Deeds, sourceDeed(s.Name, s.Text))
		outer.Links = append(outer.Links, askLink(s.Name, 201+i))
	}
	return account(append(a.Deeds, outer)...)
}

func TestNumberOfDeeds(t *testing.T) {
	checks(t, impl.Account{}, 1, 0)
	checks(t, impl.Account{Deeds: []impl.Deed{}}, 1, 0)
	checks(t, wide(203), 0, 0)
	checks(t, wide(impl.MaxDeeds-1), 0, 0)
	checks(t, wide(impl.MaxDeeds), 0, 0)
	checks(t, wide(impl.MaxDeeds+1), 1, 0)
	checks(t, impl.Account{Deeds: make([]impl.Deed, impl.MaxDeeds)}, 2, 0)
	checks(t, impl.Account{Deeds: make([]impl.Deed, impl.MaxDeeds+1)}, 1, 0)
	checks(t, impl.Account{Deeds: make([]impl.Deed, 100000)}, 1, 0)
}

func TestNumberOfLinks(t *testing.T) {
	s := sourceDeed("s", "")
	for _, link := range []impl.Link{askLink("s", 0), hasLink("s", true)} {
		links := append([]impl.Link{askLink("s", 0)}, slices.Repeat([]impl.Link{link}, impl.MaxLooks)...)
		checks(t, account(s, targetDeed("t", links[:impl.MaxLooks-1]...)), 0, 0)
		checks(t, account(s, targetDeed("t", links[:impl.MaxLooks]...)), 0, 0)
		checks(t, account(s, targetDeed("t", links...)), 2, 1)
	}
}

// chain is an account of n targets, the one at place n-1 being the outermost; each
// stands on the one ahead of it, the first on what is given.
func chain(n int, below ...impl.Deed) impl.Account {
	a := account(below...)
	for i := range n {
		var links []impl.Link
		if len(a.Deeds) > 0 {
			last := len(a.Deeds) - 1
			links = append(links, askLink(a.Deeds[last].Name, last))
		}
		a.Deeds = append(a.Deeds, targetDeed(fmt.Sprintf("t%03d", n-1-i), links...))
	}
	return a
}

func TestDepthOfAccounts(t *testing.T) {
	for n := 1; n <= impl.MaxDepth; n++ {
		checks(t, chain(n), 0, 0)
		checks(t, chain(n, sourceDeed("s", "")), 0, 0)
		checks(t, chain(n, noneDeed("n")), 0, 0)
	}
	for _, n := range []int{impl.MaxDepth + 1, impl.MaxDepth + 2, 100, impl.MaxDeeds - 1} {
		checks(t, chain(n), 5, 0)
		checks(t, chain(n, sourceDeed("s", "")), 5, 1)
		checks(t, chain(n, noneDeed("n")), 5, 1)
	}
	// The root asks for more behind a chain: it has been begun, and the chain is listed.
	a := chain(impl.MaxDepth)
	root := &a.Deeds[impl.MaxDepth-1]
	more := targetDeed("more")
	root.Links = append(root.Links, askLink("more", impl.MaxDepth-1))
	a.Deeds = slices.Insert(a.Deeds, impl.MaxDepth-1, more)
	checks(t, a, 0, 0)
}

// Whether a target is too deep is a thing of the way on which it is made, not of the
// longest one that leads to it.
func TestDepthAlongTheWayOfMaking(t *testing.T) {
	low := targetDeed("low")
	tall := chain(impl.MaxDepth, low)
	checks(t, tall, 5, 0)
	early := cloneAccount(tall)
	root := &early.Deeds[impl.MaxDepth]
	root.Links = slices.Insert(root.Links, 0, askLink("low", 0))
	checks(t, early, 0, 0)
	late := cloneAccount(tall)
	root = &late.Deeds[impl.MaxDepth]
	root.Links = append(root.Links, askLink("low", 0))
	checks(t, late, 5, 0)
	// From half-way up, once more: the deepest asks for it again.
	half := cloneAccount(tall)
	half.Deeds[30].Links = slices.Insert(half.Deeds[30].Links, 0, askLink("low", 0))
	checks(t, half, 0, 0)
	// A look that asks for nothing leads nowhere.
	looks := cloneAccount(tall)
	root = &looks.Deeds[impl.MaxDepth]
	root.Links = slices.Insert(root.Links, 0, hasLink("low", true))
	checks(t, looks, 5, 0)
	// The first place that is too deep, behind what is not: a source, and a target made from on high.
	a := account(sourceDeed("s", ""), targetDeed("u", askLink("s", 0)))
	b := chain(impl.MaxDepth+2, targetDeed("low", askLink("s", 0), askLink("u", 1)))
	for i, d := range b.Deeds {
		for j := range d.Links {
			if i > 0 && d.Links[j].Ask {
				d.Links[j].At += 2
			}
		}
	}
	a.Deeds = append(a.Deeds, b.Deeds...)
	last := &a.Deeds[len(a.Deeds)-1]
	last.Links = slices.Insert(last.Links, 0, askLink("u", 1))
	checks(t, a, 5, 2)
}

// wrongAccount has the faults of the codes that are set, and no other, and tells the
// place of each.
func wrongAccount(fault [6]bool) (impl.Account, [6]int) {
	var places [6]int
	var a impl.Account
	var links []impl.Link
	put := func(d impl.Deed, asked bool) int {
		at := len(a.Deeds)
		a.Deeds = append(a.Deeds, d)
		if asked {
			links = append(links, askLink(d.Name, at))
		}
		return at
	}
	put(sourceDeed("s", "x"), true)
	put(targetDeed("t", askLink("s", 0), hasLink("z", false)), true)
	n := impl.MaxDepth - 1
	if fault[5] {
		n++
	}
	for i := range n {
		d := targetDeed(fmt.Sprintf("c%02d", i))
		if i > 0 {
			d.Links = []impl.Link{askLink(fmt.Sprintf("c%02d", i-1), len(a.Deeds)-1)}
		}
		if at := put(d, i == n-1); i == 0 {
			places[5] = at
		}
	}
	if fault[4] {
		places[4] = put(sourceDeed("unasked", ""), false)
		put(noneDeed("unasked2"), false)
	}
	if fault[3] {
		places[3] = put(sourceDeed("s", "y"), true)
		put(noneDeed("s"), true)
	}
	if fault[2] {
		places[2] = put(impl.Deed{Name: "w", Kind: 1, Code: 1}, true)
		put(impl.Deed{Name: "v", Kind: 9}, true)
	}
	if fault[1] {
		for i := range 340 {
			put(sourceDeed(fmt.Sprintf("x%03d", i), ""), false)
		}
		// All of them are asked for, in two targets that the root asks for.
		a = manyAsked(a)
		links = append(links, askLink("y0", len(a.Deeds)-2), askLink("y1", len(a.Deeds)-1))
	}
	put(targetDeed("root", links...), false)
	return a, places
}

// manyAsked gives an account whose last 340 deeds are asked for by two more.
func manyAsked(a impl.Account) impl.Account {
	from := len(a.Deeds) - 340
	y0, y1 := targetDeed("y0"), targetDeed("y1")
	var rest []impl.Deed
	rest = append(rest, a.Deeds[:from+170]...)
	for i := range 170 {
		y0.Links = append(y0.Links, askLink(a.Deeds[from+i].Name, from+i))
		y1.Links = append(y1.Links, askLink(a.Deeds[from+170+i].Name, from+171+i))
	}
	rest = append(rest, y0)
	rest = append(rest, a.Deeds[from+170:]...)
	return account(append(rest, y1)...)
}

// wrongAccounts are all that wrongAccount gives, each with its code and place.
func wrongAccounts() (list []impl.Account, codes, places []int) {
	for set := range 32 {
		var fault [6]bool
		code := 0
		for f := 5; f >= 1; f-- {
			if fault[f] = set>>(f-1)&1 == 1; fault[f] {
				code = f
			}
		}
		a, at := wrongAccount(fault)
		list, codes, places = append(list, a), append(codes, code), append(places, at[code])
	}
	return list, codes, places
}

func TestAccountCodesInTheirOrder(t *testing.T) {
	list, codes, places := wrongAccounts()
	for i, a := range list {
		checks(t, a, codes[i], places[i])
	}
}

// tellCheck says what CheckAccount must, in the document's words.
func tellCheck(a impl.Account) (int, int) {
	if n := len(a.Deeds); n < 1 || n > 400 {
		return 1, 0
	}
	for i := range a.Deeds {
		if !tellRight(a.Deeds, i) {
			return 2, i
		}
	}
	for i, d := range a.Deeds {
		if slices.ContainsFunc(a.Deeds[:i], func(e impl.Deed) bool { return e.Name == d.Name }) {
			return 3, i
		}
	}
	order, ways := tellOrder(a)
	for i := range a.Deeds {
		if i >= len(order) || order[i] != i {
			return 4, i
		}
	}
	for i, d := range a.Deeds {
		if d.Kind == 3 && ways[i] >= 60 {
			return 5, i
		}
	}
	return 0, 0
}

func tellRight(deeds []impl.Deed, i int) bool {
	d := deeds[i]
	bare := d.Code == 0 && len(d.Action.Code) == 0 && len(d.Links) == 0
	if !nameByBytes(d.Name) {
		return false
	}
	switch d.Kind {
	case 1:
		return bare && len(d.Text) <= 2000
	case 2:
		return bare && d.Text == ""
	case 3:
		for _, l := range d.Links {
			if !nameByBytes(l.Name) || !l.Ask && l.At != 0 || l.Ask && (l.Has || l.At < 0 || l.At > i-1 || deeds[l.At].Name != l.Name) {
				return false
			}
		}
		return d.Code >= 0 && d.Code <= 5 && len(d.Text) <= 2000 && impl.ValidProgram(d.Action) && len(d.Links) <= 200
	}
	return false
}

// tellOrder gives the places in the order in which they are listed, and for each deed
// how many targets are on the way to it.
func tellOrder(a impl.Account) (order []int, ways map[int]int) {
	ways = map[int]int{}
	var list func(at int, way []int)
	list = func(at int, way []int) {
		for _, l := range a.Deeds[at].Links {
			if l.Ask && !slices.Contains(order, l.At) {
				list(l.At, append(slices.Clone(way), at))
			}
		}
		order = append(order, at)
		ways[at] = len(way)
	}
	list(len(a.Deeds)-1, nil)
	return order, ways
}

// randomAccount is mostly right in its deeds, and at times valid.
func randomAccount(r *rand.Rand) impl.Account {
	var a impl.Account
	n := 1 + r.Intn(5)
	for i := range n {
		d := targetDeed(string(rune('a' + i)))
		switch k := r.Intn(10); {
		case k < 2:
			d = sourceDeed(d.Name, "x")
		case k < 4:
			d = noneDeed(d.Name)
		}
		for d.Kind == 3 && i > 0 && r.Intn(5) > 0 {
			at := max(i-1-r.Intn(2), 0)
			d.Links = append(d.Links, askLink(a.Deeds[at].Name, at))
		}
		a.Deeds = append(a.Deeds, d)
	}
	if r.Intn(4) == 0 {
		a = bent(r, a)
	}
	return a
}

func TestChecksAtRandom(t *testing.T) {
	r := rand.New(rand.NewSource(6))
	seen := map[int]int{}
	for range 40000 {
		a := randomAccount(r)
		code, at := tellCheck(a)
		seen[code]++
		checks(t, a, code, at)
	}
	for _, code := range []int{0, 2, 3, 4} {
		if seen[code] < 200 {
			t.Errorf("too few accounts with code %d: %v", code, seen)
		}
	}
}

func TestDepthAtRandom(t *testing.T) {
	r := rand.New(rand.NewSource(7))
	seen := map[int]int{}
	for range 3000 {
		a := chain(57 + r.Intn(8))
		for range r.Intn(10) {
			at := 1 + r.Intn(len(a.Deeds)-1)
			to := max(0, at-1-r.Intn(20))
			d := &a.Deeds[at]
			d.Links = slices.Insert(d.Links, r.Intn(len(d.Links)+1), askLink(a.Deeds[to].Name, to))
		}
		code, at := tellCheck(a)
		seen[code]++
		checks(t, a, code, at)
	}
	if seen[0] < 300 || seen[5] < 300 {
		t.Errorf("too few accounts with some code: %v", seen)
	}
}
