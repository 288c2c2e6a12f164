package tests

import (
	"fmt"
	"math/rand"
	"slices"
	"strings"
	"testing"

	"loop.example/kilndeed/impl"
)

// tellFollows says what is wrong with a deed of a valid account, by its run alone.
func tellFollows(a impl.Account, d impl.Deed) int {
	if d.Kind != 3 {
		return 0
	}
	var replies []impl.Reply
	for i := 0; ; i++ {
		turn := impl.Next(d.Action, replies)
		switch {
		case turn.Over && i < len(d.Links):
			return 4
		case turn.Over && (turn.Code != d.Code || turn.Text != d.Text):
			return 5
		case turn.Over:
			return 0
		case i == len(d.Links) || turn.Name != d.Links[i].Name || turn.Ask != d.Links[i].Ask:
			return 4
		}
		reply := impl.Reply{Has: d.Links[i].Has}
		if turn.Ask {
			switch on := a.Deeds[d.Links[i].At]; on.Kind {
			case 1:
				reply = impl.Reply{Has: true, Text: on.Text}
			case 3:
				reply = impl.Reply{Has: true, Code: on.Code, Text: on.Text}
			}
		}
		replies = append(replies, reply)
	}
}

// tellLies says what is wrong with a deed by what the space has.
func tellLies(d impl.Deed, m model) int {
	th, there := m[d.Name]
	switch {
	case d.Kind == 1 && (!there || th.action != nil || th.text != d.Text):
		return 2
	case d.Kind == 2 && there:
		return 2
	case d.Kind == 3 && (!there || th.action == nil || !slices.Equal(th.action, d.Action.Code)):
		return 2
	}
	for _, l := range d.Links {
		if _, there := m[l.Name]; !l.Ask && l.Has != there {
			return 3
		}
	}
	return 0
}

// tellAudit is what Follows must say, or, with a space, what Audit must.
func tellAudit(a impl.Account, m model, space bool) (int, int) {
	if c, _ := tellCheck(a); c != 0 {
		return 1, 0
	}
	for i, d := range a.Deeds {
		if c := tellLies(d, m); space && c != 0 {
			return c, i
		}
		if c := tellFollows(a, d); c != 0 {
			return c, i
		}
	}
	return 0, 0
}

// audits asks P6, P7 and P8 of one account in a valid space, and gives Audit's code.
func audits(t *testing.T, a impl.Account, m model) int {
	t.Helper()
	sp, was := m.space(), cloneAccount(a)
	code, at := impl.Audit(a, sp)
	if c, k := tellAudit(a, m, true); c != code || k != at {
		t.Fatalf("audit of %.300q\nin %.300q\n%d at %d, want %d at %d", fmt.Sprint(a), fmt.Sprint(m), code, at, c, k)
	}
	follows, where := impl.Follows(a)
	if c, k := tellAudit(a, m, false); c != follows || k != where {
		t.Fatalf("follows of %.300q\n%d at %d, want %d at %d", fmt.Sprint(a), follows, where, c, k)
	}
	if code == 0 && follows != 0 {
		t.Fatalf("audit accepts what does not follow: %.300q", fmt.Sprint(a))
	}
	made := impl.Account{}
	if len(a.Deeds) > 0 {
		made, _ = impl.Make(sp, a.Deeds[len(a.Deeds)-1].Name)
	}
	if same := len(a.Deeds) > 0 && sameAccount(a, made); same != (code == 0) {
		t.Fatalf("audit of %.300q\nin %.300q: %d, but it is made so: %v", fmt.Sprint(a), fmt.Sprint(m), code, same)
	}
	if !sameAccount(a, was) || !sameSpace(sp, m.space()) {
		t.Fatalf("an argument has changed: %.300q", fmt.Sprint(was))
	}
	return code
}

// rings asks Audit and Follows for their codes, each at its place.
func rings(t *testing.T, a impl.Account, m model, audit, auditAt, follows, followsAt int) {
	t.Helper()
	audits(t, a, m)
	if c, k := impl.Audit(a, m.space()); c != audit || k != auditAt {
		t.Errorf("audit: %d at %d, want %d at %d", c, k, audit, auditAt)
	}
	if c, k := impl.Follows(a); c != follows || k != followsAt {
		t.Errorf("follows: %d at %d, want %d at %d", c, k, follows, followsAt)
	}
}

// ledger is a space with a thing of each kind: the account of "top" has the deeds
// 0 conf, 1 part, 2 mid, 3 none, 4 opt, 5 top.
func ledger() model {
	return model{
		"conf": {text: "part x"}, "part": {text: "P"}, "there": {text: "T"}, "spare": asks("none"),
		"mid": action(literal("conf"), ins(impl.OpAsk), ins(impl.OpWord, 0), ins(impl.OpAsk), ins(impl.OpEnd)),
		"opt": action(literal("there"), ins(impl.OpHas), literal("there2"), ins(impl.OpHas), ins(impl.OpCat), literal("none"), ins(impl.OpAsk), ins(impl.OpEnd)),
		"top": action(literal("mid"), ins(impl.OpAsk), literal("spare"), ins(impl.OpHas), ins(impl.OpCat), literal("opt"), ins(impl.OpAsk), ins(impl.OpEnd)),
	}
}

func TestAuditOfEachCode(t *testing.T) {
	m := ledger()
	spoiled := func(audit, auditAt, follows, followsAt int, change func(d []impl.Deed)) {
		t.Helper()
		a := cloneAccount(makes(t, m, "top"))
		change(a.Deeds)
		rings(t, a, m, audit, auditAt, follows, followsAt)
	}
	spoiled(0, 0, 0, 0, func(d []impl.Deed) {})
	spoiled(2, 0, 0, 0, func(d []impl.Deed) { d[0].Text = "part y" })
	spoiled(2, 0, 4, 2, func(d []impl.Deed) { d[0].Text = "other x" })
	spoiled(2, 1, 5, 2, func(d []impl.Deed) { d[1].Text = "Q" })
	spoiled(2, 1, 5, 2, func(d []impl.Deed) { d[1] = noneDeed("part") })
	spoiled(2, 3, 5, 4, func(d []impl.Deed) { d[3] = sourceDeed("none", "") })
	spoiled(2, 2, 5, 2, func(d []impl.Deed) { d[2].Action.Code[4].Op = impl.OpFail })
	spoiled(2, 2, 0, 0, func(d []impl.Deed) { d[2].Action.Code = append(d[2].Action.Code, ins(impl.OpEnd)) })
	spoiled(2, 4, 4, 4, func(d []impl.Deed) { d[4].Action.Code[0].Text = "their" })
	spoiled(3, 4, 0, 0, func(d []impl.Deed) { d[4].Links[0].Has = false })
	spoiled(3, 4, 0, 0, func(d []impl.Deed) { d[4].Links[1].Has = true })
	spoiled(3, 5, 0, 0, func(d []impl.Deed) { d[5].Links[1].Has = false })
	spoiled(4, 2, 4, 2, func(d []impl.Deed) { d[2].Links = append(d[2].Links, hasLink("none", false)) })
	spoiled(4, 2, 4, 2, func(d []impl.Deed) { d[2].Links = append(d[2].Links, askLink("part", 1)) })
	spoiled(4, 4, 4, 4, func(d []impl.Deed) { d[4].Links = slices.Delete(d[4].Links, 0, 1) })
	spoiled(4, 4, 4, 4, func(d []impl.Deed) { d[4].Links[0].Name = "conf" })
	spoiled(4, 5, 4, 5, func(d []impl.Deed) { d[5].Links = append(d[5].Links, hasLink("spare", true)) })
	spoiled(4, 5, 4, 5, func(d []impl.Deed) { d[5].Links[1] = askLink("mid", 2) })
	spoiled(4, 5, 4, 5, func(d []impl.Deed) { d[5].Links[1].Name = "mid" })
	spoiled(4, 5, 4, 5, func(d []impl.Deed) { d[5].Links = slices.Insert(d[5].Links, 1, hasLink("mid", true)) })
	spoiled(5, 2, 5, 2, func(d []impl.Deed) { d[2].Text = "p" })
	spoiled(5, 2, 5, 2, func(d []impl.Deed) { d[2].Code = 1 })
	spoiled(5, 4, 5, 4, func(d []impl.Deed) { d[4].Code, d[4].Text = 5, "none" })
	spoiled(5, 4, 5, 4, func(d []impl.Deed) { d[4].Text = "" })
	spoiled(5, 5, 5, 5, func(d []impl.Deed) { d[5].Text = "mid" })
	spoiled(5, 5, 5, 5, func(d []impl.Deed) { d[5].Code = 4 })
	// One ask too few: what it asked for is no more listed, so it is gone, too.
	opt := makes(t, m, "opt").Deeds[1]
	opt.Links = opt.Links[:2]
	rings(t, account(opt), m, 4, 0, 4, 0)
}

// An ask where the link has none, and the other way, of one name.
func TestAuditOfAskAndHas(t *testing.T) {
	m := model{"s": {text: "1"}, "ask": asks("s"), "has": action(literal("s"), ins(impl.OpHas), ins(impl.OpEnd)), "both": action(literal("s"), ins(impl.OpHas), literal("s"), ins(impl.OpAsk), ins(impl.OpCat), ins(impl.OpEnd))}
	deed := func(name, text string, links ...impl.Link) impl.Deed {
		return impl.Deed{Name: name, Kind: 3, Text: text, Action: program(m[name].action...), Links: links}
	}
	s := sourceDeed("s", "1")
	rings(t, account(s, deed("ask", "1", askLink("s", 0))), m, 0, 0, 0, 0)
	rings(t, account(deed("has", "1", hasLink("s", true))), m, 0, 0, 0, 0)
	rings(t, account(deed("ask", "1", hasLink("s", true))), m, 4, 0, 4, 0)
	rings(t, account(s, deed("has", "1", askLink("s", 0))), m, 4, 1, 4, 1)
	rings(t, account(s, deed("both", "11", hasLink("s", true), askLink("s", 0))), m, 0, 0, 0, 0)
	rings(t, account(s, deed("both", "11", askLink("s", 0), hasLink("s", true))), m, 4, 1, 4, 1)
	rings(t, account(s, deed("both", "11", askLink("s", 0), askLink("s", 0))), m, 4, 1, 4, 1)
	rings(t, account(deed("both", "11", hasLink("s", true), hasLink("s", true))), m, 4, 0, 4, 0)
}

func TestAuditCodesInTheirOrder(t *testing.T) {
	m := ledger()
	// Each set of faults of the one deed "opt": the first code tells, ahead of any fault of a later deed.
	for set := range 16 {
		a := cloneAccount(makes(t, m, "top"))
		d := &a.Deeds[4]
		want, follows := 0, 0
		if set&8 != 0 {
			d.Text, want, follows = "other", 5, 5
		}
		if set&4 != 0 {
			d.Links = append(d.Links, askLink("none", 3))
			want, follows = 4, 4
		}
		if set&2 != 0 {
			d.Links[0].Has, want = false, 3
		}
		if set&1 != 0 {
			d.Action.Code, want = append(d.Action.Code, ins(impl.OpEnd)), 2
		}
		at := func(code int) int { return map[bool]int{true: 0, false: 4}[code == 0] }
		rings(t, a, m, want, at(want), follows, at(follows))
		a.Deeds[5].Text = "wrong, too"
		if want == 0 {
			rings(t, a, m, 5, 5, 5, 5)
			continue
		}
		rings(t, a, m, want, 4, map[bool]int{true: 5, false: follows}[follows == 0], map[bool]int{true: 5, false: 4}[follows == 0])
		// A higher code of an earlier deed is told ahead of it.
		a.Deeds[2].Text = "wrong, too"
		rings(t, a, m, 5, 2, 5, 2)
	}
}

// An account that stays, in spaces that have changed under the names that it tells of.
func TestAuditInChangedSpaces(t *testing.T) {
	m := ledger()
	a := makes(t, m, "top")
	for _, c := range []struct {
		m        model
		code, at int
	}{
		{m, 0, 0}, {m.with("conf", thing{text: "part y"}), 2, 0}, {m.with("part", thing{text: "p"}), 2, 1}, {m.without("part"), 2, 1},
		{m.with("part", endless), 2, 1}, {m.with("mid", thing{text: "P"}), 2, 2}, {m.without("mid"), 2, 2}, {m.with("mid", endless), 2, 2},
		{m.with("none", thing{}), 2, 3}, {m.with("none", endless), 2, 3}, {m.without("there"), 3, 4}, {m.with("there2", thing{}), 3, 4}, {m.with("there2", endless), 3, 4},
		{m.without("spare"), 3, 5}, {m.without("there").without("top"), 3, 4}, {m.without("top"), 2, 5},
		{m.with("there", thing{text: "other"}), 0, 0}, {m.with("there", endless), 0, 0}, {m.with("spare", thing{}), 0, 0}, {m.with("unseen", thing{}), 0, 0},
		{model{}, 2, 0},
	} {
		rings(t, a, c.m, c.code, c.at, 0, 0)
	}
}

func TestAuditOfWhatIsNotValid(t *testing.T) {
	list, codes, _ := wrongAccounts()
	for i, a := range list {
		if codes[i] != 0 {
			rings(t, a, model{"s": {text: "x"}}, 1, 0, 1, 0)
		}
	}
	for _, d := range wrongDeeds() {
		rings(t, account(sourceDeed("s", ""), targetDeed("u", askLink("s", 0)), d), model{}, 1, 0, 1, 0)
	}
	rings(t, impl.Account{}, ledger(), 1, 0, 1, 0)
	spaces, faults := wrongSpaces()
	good := account(sourceDeed("a", "x"))
	for i, sp := range spaces {
		for _, a := range []impl.Account{good, account(noneDeed("none")), account(sourceDeed("a", "other")), {}} {
			want := 1
			if faults[i] == 0 && len(a.Deeds) > 0 {
				want = map[bool]int{true: 2, false: 0}[a.Deeds[0].Text == "other"]
			}
			if c, k := impl.Audit(a, sp); c != want || k != 0 {
				t.Errorf("faults %07b: %d at %d, want %d", i, c, k, want)
			}
		}
	}
	// One more than MaxThings, all of them well.
	full := many(impl.MaxThings, thing{text: "x"})
	rings(t, account(sourceDeed("m199", "x")), full, 0, 0, 0, 0)
	if c, k := impl.Audit(account(sourceDeed("m199", "x")), full.with("z", thing{}).space()); c != 1 || k != 0 {
		t.Errorf("%d at %d", c, k)
	}
}

func TestAuditAtTheLimits(t *testing.T) {
	name, text := strings.Repeat("~", impl.MaxName), strings.Repeat("\xff", impl.MaxText)
	for _, c := range []struct {
		m    model
		name string
	}{
		{tower(impl.MaxDepth, "src"), "t000"}, {tower(impl.MaxDepth, "none"), "t000"},
		{tower(impl.MaxDepth, "made").with("made", asks("src")).with("t000", asks("made", "t001")), "t000"},
		{model{"s": {text: "x"}, "t": action(literal("s"), ins(impl.OpAsk), ins(impl.OpDrop), ins(impl.OpJump, 0))}, "t"},
		{model{"t": action(literal("s"), ins(impl.OpHas), ins(impl.OpDrop), ins(impl.OpJump, 0))}, "t"},
		{model{name: {text: text}, "t": asks(name), "u": action(literal(name), ins(impl.OpHas), ins(impl.OpEnd))}, "t"},
		{model{"t": asks(name)}, "t"}, {model{name: asks(name + "~")}, name}, {model{"t": endless}, "t"},
	} {
		a := makes(t, c.m, c.name)
		rings(t, a, c.m, 0, 0, 0, 0)
		list := changes(a)
		for i := 0; i < len(list); i += 1 + len(list)/150 {
			audits(t, list[i].of(a), c.m)
		}
	}
	// All looks that there may be: one link fewer, and a look more than the run could do.
	m := model{"t": action(literal("s"), ins(impl.OpHas), ins(impl.OpDrop), ins(impl.OpJump, 0))}
	a := cloneAccount(makes(t, m, "t"))
	a.Deeds[0].Links = a.Deeds[0].Links[:impl.MaxLooks-1]
	rings(t, a, m, 4, 0, 4, 0)
	a.Deeds[0].Links = slices.Repeat([]impl.Link{hasLink("s", false)}, impl.MaxLooks+1)
	rings(t, a, m, 1, 0, 1, 0)
	// The deepest account, with one target more around it: each deed holds, and all of it is not valid.
	m = tower(impl.MaxDepth+1, "src")
	a = cloneAccount(makes(t, m, "t001"))
	a.Deeds = append(a.Deeds, impl.Deed{Name: "t000", Kind: 3, Text: "x", Action: program(m["t000"].action...), Links: []impl.Link{askLink("t001", impl.MaxDepth)}})
	rings(t, a, m, 1, 0, 1, 0)
	// The most deeds that there may be: they hold together, but are those of no space.
	rings(t, wide(impl.MaxDeeds), model{"i000": {text: "i001"}}, 2, 1, 0, 0)
	rings(t, wide(impl.MaxDeeds+1), model{"i000": {text: "i001"}}, 1, 0, 1, 0)
	a = wide(impl.MaxDeeds)
	a.Deeds[impl.MaxDeeds-1].Text = "x"
	rings(t, a, model{}, 2, 0, 5, impl.MaxDeeds-1)
}

func (th thing) program() impl.Program { return program(th.action...) }

// bentLinks differ from one in one thing, mostly.
func bentLinks(l impl.Link) []impl.Link {
	name, ask, has, at, before := l, l, l, l, l
	name.Name += "x"
	ask.Ask = !l.Ask
	has.Has = !l.Has
	at.At++
	before.At--
	other := ask
	other.At = 0
	return []impl.Link{name, ask, has, at, before, other}
}

// change makes of a copy of an account another one.
type change func(b *impl.Account)

func (c change) of(a impl.Account) impl.Account {
	b := cloneAccount(a)
	c(&b)
	return b
}

// changes are all by which an account becomes one that differs in one thing, a deed or
// a link more or fewer or in another place included.
func changes(a impl.Account) []change {
	var list []change
	put := func(c change) { list = append(list, c) }
	for i, d := range a.Deeds {
		put(func(b *impl.Account) { b.Deeds = slices.Delete(b.Deeds, i, i+1) })
		put(func(b *impl.Account) { b.Deeds = b.Deeds[:i+1] })
		put(func(b *impl.Account) { b.Deeds = slices.Insert(b.Deeds, i, d) })
		put(func(b *impl.Account) { b.Deeds = slices.Insert(b.Deeds, i, noneDeed("new")) })
		put(func(b *impl.Account) { j := (i + 1) % len(a.Deeds); b.Deeds[i], b.Deeds[j] = b.Deeds[j], b.Deeds[i] })
		for kind := range 5 {
			put(func(b *impl.Account) { b.Deeds[i].Kind = kind })
		}
		for code := range 7 {
			put(func(b *impl.Account) { b.Deeds[i].Code = code })
		}
		put(func(b *impl.Account) { b.Deeds[i].Name += "x" })
		put(func(b *impl.Account) { b.Deeds[i].Text += "x" })
		put(func(b *impl.Account) { b.Deeds[i].Text = "" })
		put(func(b *impl.Account) { b.Deeds[i].Action.Code = append(b.Deeds[i].Action.Code, ins(impl.OpEnd)) })
		for j := range d.Action.Code {
			put(func(b *impl.Account) { b.Deeds[i].Action.Code[j] = ins(impl.OpEnd) })
			put(func(b *impl.Account) { b.Deeds[i].Action.Code[j].Text += "x" })
			put(func(b *impl.Account) { b.Deeds[i].Action.Code = b.Deeds[i].Action.Code[:j] })
		}
		for j, l := range d.Links {
			put(func(b *impl.Account) { b.Deeds[i].Links = slices.Delete(b.Deeds[i].Links, j, j+1) })
			put(func(b *impl.Account) { b.Deeds[i].Links = b.Deeds[i].Links[:j] })
			put(func(b *impl.Account) { b.Deeds[i].Links = slices.Insert(b.Deeds[i].Links, j, l) })
			put(func(b *impl.Account) {
				k := (j + 1) % len(d.Links)
				b.Deeds[i].Links[j], b.Deeds[i].Links[k] = b.Deeds[i].Links[k], l
			})
			for _, other := range bentLinks(l) {
				put(func(b *impl.Account) { b.Deeds[i].Links[j] = other })
			}
		}
		put(func(b *impl.Account) { b.Deeds[i].Links = append(b.Deeds[i].Links, hasLink("z", false)) })
		put(func(b *impl.Account) { b.Deeds[i].Links = append(b.Deeds[i].Links, askLink(a.Deeds[0].Name, 0)) })
	}
	return list
}

func TestNeighboursOfAccounts(t *testing.T) {
	m := ledger()
	for _, name := range append(m.names(), "none") {
		a := makes(t, m, name)
		for _, c := range changes(a) {
			audits(t, c.of(a), m)
		}
	}
}

// bent is an account changed at random in one thing.
func bent(r *rand.Rand, a impl.Account) impl.Account {
	list := changes(a)
	return list[r.Intn(len(list))].of(a)
}

func TestAuditsAtRandom(t *testing.T) {
	r := rand.New(rand.NewSource(9))
	names := []string{"a", "b", "c", "d", "e", "f", "x"}
	seen := map[int]int{}
	for range 2500 {
		m := randomModel(r, names)
		other := m
		for range 1 + r.Intn(2) {
			other = other.with(names[r.Intn(len(names))], randomAction(r, names))
			other = other.without(names[r.Intn(len(names))])
		}
		for _, name := range names {
			a, _ := impl.Make(m.space(), name)
			if len(a.Deeds) == 0 {
				continue
			}
			seen[audits(t, a, m)]++
			seen[audits(t, a, other)]++
			b := a
			for range 3 {
				if len(b.Deeds) == 0 {
					break
				}
				b = bent(r, b)
				seen[audits(t, b, m)]++
				seen[audits(t, b, other)]++
			}
		}
	}
	for code := range 6 {
		if seen[code] < 200 {
			t.Errorf("too few audits with code %d: %v", code, seen)
		}
	}
}

// All accounts of one and two deeds of a few words, in each of a few spaces: accepted are those that are made.
func TestAllSmallAccounts(t *testing.T) {
	actions := []thing{asks("a"), action(literal("a"), ins(impl.OpHas), ins(impl.OpEnd)), action(literal("x"), ins(impl.OpEnd))}
	things := append([]thing{{text: "x"}, {text: "0"}}, actions...)
	firsts, seconds := smallDeeds("a", actions, false), smallDeeds("b", actions, true)
	accepted := 0
	for i := range len(things) + 1 {
		for j := range len(things) + 1 {
			m := model{}
			if i < len(things) {
				m["a"] = things[i]
			}
			if j < len(things) {
				m["b"] = things[j]
			}
			for _, a := range firsts {
				accepted += countAccepted(t, account(a), m)
			}
			for _, b := range seconds {
				accepted += countAccepted(t, account(b), m)
				for _, a := range firsts {
					accepted += countAccepted(t, account(a, b), m)
				}
			}
		}
	}
	// One of each of the two names in each of the 36 spaces, but the 6 of a where it asks for itself, and the one of b where it asks for that.
	if accepted != 72-7 {
		t.Errorf("%d accounts accepted", accepted)
	}
}

// smallDeeds are deeds of a name, also such as no run gives.
func smallDeeds(name string, actions []thing, links bool) []impl.Deed {
	list := []impl.Deed{noneDeed(name), sourceDeed(name, "x"), sourceDeed(name, "0")}
	looks := [][]impl.Link{nil, {hasLink("a", true)}, {hasLink("a", false)}}
	if links {
		looks = append(looks, []impl.Link{askLink("a", 0)}, []impl.Link{askLink("a", 0), askLink("a", 0)}, []impl.Link{hasLink("a", true), askLink("a", 0)})
	}
	for _, th := range actions {
		for _, code := range []int{0, 4} {
			for _, text := range []string{"x", "a", "1", "0"} {
				for _, l := range looks {
					list = append(list, impl.Deed{Name: name, Kind: 3, Code: code, Text: text, Action: th.program(), Links: l})
				}
			}
		}
	}
	return list
}

// countAccepted asks P6 of one account, without a second telling, and counts it.
func countAccepted(t *testing.T, a impl.Account, m model) int {
	sp := m.space()
	code, _ := impl.Audit(a, sp)
	made, _ := impl.Make(sp, a.Deeds[len(a.Deeds)-1].Name)
	if same := sameAccount(a, made); same != (code == 0) {
		t.Fatalf("audit of %+v in %+v: %d, but it is made so: %v", a, m, code, same)
	}
	if code != 0 {
		return 0
	}
	if c, k := impl.Follows(a); c != 0 || k != 0 {
		t.Fatalf("accepted, but does not follow: %+v", a)
	}
	return 1
}

func TestAuditWritesNothingIntoItsArguments(t *testing.T) {
	sp := spareSpace()
	links := append(make([]impl.Link, 0, 3), hasLink("behind", true), hasLink("behind", true))
	b := impl.Deed{Name: "b", Kind: 3, Code: 3, Action: sp.Targets[0].Action, Links: links[:0]}
	a := impl.Account{Deeds: append(make([]impl.Deed, 0, 5), b, noneDeed("behind"))[:1]}
	wasSpace, was := wholeSpace(sp), wholeAccount(a)
	for range 2 {
		if c, k := impl.Audit(a, sp); c != 0 || k != 0 {
			t.Errorf("%d at %d", c, k)
		}
		impl.Follows(a)
		impl.CheckAccount(a)
		impl.Audit(impl.Account{Deeds: a.Deeds[:0]}, sp)
	}
	if !sameSpace(wholeSpace(sp), wasSpace) || !sameAccount(wholeAccount(a), was) {
		t.Error("written into an argument or behind its end")
	}
}
