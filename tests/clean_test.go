package tests

import (
	"fmt"
	"math/rand"
	"slices"
	"strings"
	"testing"

	"loop.example/kilndeed/impl"
)

func sameResult(a, b impl.Result) bool {
	return a.Code == b.Code && a.Text == b.Text && slices.Equal(a.Chain, b.Chain)
}

// asks is an action that asks for each of the names and gives what lies under the last.
func asks(names ...string) thing {
	var code []impl.Ins
	for _, name := range names {
		code = append(code, literal(name), ins(impl.OpAsk))
	}
	return thing{action: append(code, ins(impl.OpEnd))}
}

func action(code ...impl.Ins) thing { return thing{action: code} }

// cleans asks Clean for one result.
func cleans(t *testing.T, m model, name string, want impl.Result) {
	t.Helper()
	if got := impl.Clean(m.space(), name); !sameResult(got, want) {
		t.Errorf("%s: %.300q, want %.300q", name, fmt.Sprint(got), fmt.Sprint(want))
	}
}

func TestCleanOfEachEnd(t *testing.T) {
	long := strings.Repeat("\xff", impl.MaxText)
	m := model{
		"all": {text: allBytes()}, "empty": {}, "long": {text: long},
		"done": action(literal("d"), ins(impl.OpEnd)), "failed": action(literal("f"), ins(impl.OpFail)),
		"stuck": action(literal("s"), ins(impl.OpCat)), "spent": endless, "missing": asks("none"), "below": asks("failed"),
		"copy": asks("long"), "number": action(ins(impl.OpJump, 200)),
	}
	for name, want := range map[string]impl.Result{
		"all": {Text: allBytes()}, "empty": {}, "long": {Text: long}, "copy": {Text: long},
		"done": {Text: "d"}, "failed": {Code: 1, Text: "f"}, "stuck": {Code: 2, Text: "1"}, "number": {Code: 2, Text: "200"},
		"spent": {Code: 3}, "missing": {Code: 4, Text: "none"}, "below": {Code: 5, Text: "failed"},
		"none": {Code: 4, Text: "none"}, "al": {Code: 4, Text: "al"}, "alll": {Code: 4, Text: "alll"},
	} {
		cleans(t, m, name, want)
		// Whoever asks for it: what is there and not Done is Below, a target that ends Missing, too.
		above := impl.Result{Code: 5, Text: name}
		if want.Code == 0 {
			above = want
		} else if _, there := m[name]; !there {
			above = want
		}
		cleans(t, m.with("above", asks(name)), "above", above)
		cleans(t, m.with("above", asks("done", name)), "above", above)
		// OpHas asks whether there is something, whatever comes out of it.
		_, there := m[name]
		looks := action(literal(name), ins(impl.OpHas), ins(impl.OpEnd))
		cleans(t, m.with("above", looks), "above", impl.Result{Text: map[bool]string{true: "1", false: "0"}[there]})
	}
	cleans(t, model{}, "none", impl.Result{Code: 4, Text: "none"})
	cleans(t, model{}, strings.Repeat("n", 60), impl.Result{Code: 4, Text: strings.Repeat("n", 60)})
	cleans(t, m.with("above", asks("missing")).with("top", asks("above")), "top", impl.Result{Code: 5, Text: "above"})
}

func TestCleanNotValid(t *testing.T) {
	for _, name := range wrongNames {
		cleans(t, model{}, name, impl.Result{Code: 9})
		cleans(t, model{"a": {text: "x"}, "t": endless}, name, impl.Result{Code: 9})
	}
	wrong := impl.Space{Sources: []impl.Source{{Name: "a"}}, Targets: []impl.Target{{Name: "t"}}}
	for _, name := range []string{"a", "t", "none"} {
		if r := impl.Clean(wrong, name); !sameResult(r, impl.Result{Code: 9}) {
			t.Errorf("%+v", r)
		}
	}
}

func TestCleanFollowsWhatItReads(t *testing.T) {
	m := model{
		"which": {text: "left right"}, "left": {text: "L"}, "right": asks("left"),
		"first":  action(literal("which"), ins(impl.OpAsk), ins(impl.OpWord, 0), ins(impl.OpAsk), ins(impl.OpEnd)),
		"second": action(literal("which"), ins(impl.OpAsk), ins(impl.OpWord, 1), ins(impl.OpAsk), ins(impl.OpEnd)),
		"third":  action(literal("which"), ins(impl.OpAsk), ins(impl.OpWord, 2), ins(impl.OpAsk), ins(impl.OpEnd)),
		"both":   action(literal("first"), ins(impl.OpAsk), literal("second"), ins(impl.OpAsk), ins(impl.OpCat), ins(impl.OpEnd)),
	}
	cleans(t, m, "both", impl.Result{Text: "LL"})
	cleans(t, m, "third", impl.Result{Code: 2, Text: "3"})
	m = m.with("left", action(literal("right"), ins(impl.OpHas), ins(impl.OpEnd)))
	cleans(t, m, "both", impl.Result{Text: "11"})
	cleans(t, m.without("right"), "first", impl.Result{Text: "0"})
	cleans(t, m.without("right"), "second", impl.Result{Code: 4, Text: "right"})
	cleans(t, m.without("right"), "both", impl.Result{Code: 5, Text: "second"})
}

func TestCircles(t *testing.T) {
	circle := func(names ...string) impl.Result { return impl.Result{Code: 6, Chain: names} }
	m := model{
		"self": asks("self"), "a": asks("b"), "b": asks("c"), "c": asks("a"), "z": asks("s", "b"), "y": asks("z"), "s": {text: "x"},
		"late": asks("s", "fine", "self"), "fine": asks("s"), "fails": asks("bad", "self"), "bad": action(literal("b"), ins(impl.OpFail)),
		"guarded": action(literal("guarded"), ins(impl.OpHas), literal("a"), ins(impl.OpHas), ins(impl.OpCat), ins(impl.OpEnd)),
		"twice":   asks("fine", "fine", "two"), "two": asks("fine", "twice"),
	}
	cleans(t, m, "self", circle("self"))
	cleans(t, m, "a", circle("a", "b", "c"))
	cleans(t, m, "b", circle("b", "c", "a"))
	cleans(t, m, "c", circle("c", "a", "b"))
	cleans(t, m, "z", circle("b", "c", "a"))
	cleans(t, m, "y", circle("b", "c", "a"))
	cleans(t, m, "late", circle("self"))
	cleans(t, m, "fails", impl.Result{Code: 5, Text: "bad"})
	cleans(t, m, "guarded", impl.Result{Text: "11"})
	cleans(t, m, "twice", circle("twice", "two"))
	cleans(t, m, "two", circle("two", "twice"))
	// Who asks for a thing in a circle does not go on, whatever it would do next.
	cleans(t, m.with("top", action(literal("y"), ins(impl.OpAsk), ins(impl.OpFail))), "top", circle("b", "c", "a"))
	// What has been made before is no circle.
	cleans(t, model{"r": asks("p", "q", "p"), "p": asks("q"), "q": {text: "x"}}, "r", impl.Result{Text: "x"})
}

// tower is n targets t000, t001 .. each of which asks for the next, the last one for the name.
func tower(n int, last string) model {
	m := model{"src": {text: "x"}}
	for i := range n - 1 {
		m[fmt.Sprintf("t%03d", i)] = asks(fmt.Sprintf("t%03d", i+1))
	}
	m[fmt.Sprintf("t%03d", n-1)] = asks(last)
	return m
}

func towerNames(from, to int) []string {
	var names []string
	for i := from; i < to; i++ {
		names = append(names, fmt.Sprintf("t%03d", i))
	}
	return names
}

func TestDepthOfMaking(t *testing.T) {
	for n := 1; n <= impl.MaxDepth; n++ {
		cleans(t, tower(n, "src"), "t000", impl.Result{Text: "x"})
	}
	// Sources and names of nothing are no targets: they can be asked for from the deepest one.
	above := impl.Result{Code: 5, Text: "t001"}
	cleans(t, tower(impl.MaxDepth, "none"), "t000", above)
	for _, n := range []int{impl.MaxDepth + 1, impl.MaxDepth + 2, 150} {
		cleans(t, tower(n, "src"), "t000", impl.Result{Code: 7, Text: "t060"})
		cleans(t, tower(n, "src"), "t001", map[bool]impl.Result{true: {Text: "x"}, false: {Code: 7, Text: "t061"}}[n == impl.MaxDepth+1])
	}
	m := tower(impl.MaxDepth, "more").with("more", endless)
	cleans(t, m, "t000", impl.Result{Code: 7, Text: "more"})
	cleans(t, m, "t001", impl.Result{Code: 5, Text: "t002"})
	// OpHas makes nothing, so there is no depth to it.
	m["t059"] = action(literal("more"), ins(impl.OpHas), ins(impl.OpEnd))
	cleans(t, m, "t000", impl.Result{Text: "1"})
	// What has been made is not made again, from the deepest one neither.
	m["t059"] = asks("made")
	m["made"] = action(literal("m"), ins(impl.OpEnd))
	cleans(t, m, "t000", impl.Result{Code: 7, Text: "made"})
	m["t000"] = asks("made", "t001")
	cleans(t, m, "t000", impl.Result{Text: "m"})
	m["made"] = action(literal("m"), ins(impl.OpFail))
	m["t000"] = asks("src", "t001")
	m["t030"] = asks("made", "t031")
	cleans(t, m, "t000", impl.Result{Code: 5, Text: "t001"})
	// Where one has come back from the deepest, there is room again.
	m = tower(impl.MaxDepth, "src").with("t058", asks("t059", "more")).with("more", asks("src"))
	cleans(t, m, "t000", impl.Result{Text: "x"})
}

func TestCircleAheadOfDeep(t *testing.T) {
	for _, back := range []int{0, 1, 30, 58, 59} {
		name := fmt.Sprintf("t%03d", back)
		cleans(t, tower(impl.MaxDepth, name), "t000", impl.Result{Code: 6, Chain: towerNames(back, impl.MaxDepth)})
		// The first asked for tells: the deepest one asks for another target ahead of the circle, and behind it.
		m := tower(impl.MaxDepth, name).with("more", endless)
		m["t059"] = asks("more", name)
		cleans(t, m, "t000", impl.Result{Code: 7, Text: "more"})
		m["t059"] = asks(name, "more")
		cleans(t, m, "t000", impl.Result{Code: 6, Chain: towerNames(back, impl.MaxDepth)})
	}
	cleans(t, tower(impl.MaxDepth+1, "t000"), "t000", impl.Result{Code: 7, Text: "t060"})
}

// Asked for twice by each one above it, a thing that is not made once would be made 2^59 times.
func TestThingsAreMadeOnce(t *testing.T) {
	m := tower(impl.MaxDepth, "src")
	for i := range impl.MaxDepth - 1 {
		next := fmt.Sprintf("t%03d", i+1)
		m[fmt.Sprintf("t%03d", i)] = asks(next, next)
	}
	cleans(t, m, "t000", impl.Result{Text: "x"})
}

// telling is a clean build told once more: it replays the runs with Next, look for look.
type telling struct {
	m     model
	made  map[string]impl.Result
	path  []string
	whole *impl.Result // the end that holds for all
}

func (b *telling) lies(name string) impl.Result {
	th, there := b.m[name]
	switch {
	case !there:
		return impl.Result{Code: 4, Text: name}
	case th.action == nil:
		return impl.Result{Text: th.text}
	}
	if r, made := b.made[name]; made {
		return r
	}
	if at := slices.Index(b.path, name); at >= 0 {
		b.whole = &impl.Result{Code: 6, Chain: slices.Clone(b.path[at:])}
		return impl.Result{}
	}
	if len(b.path) >= 60 {
		b.whole = &impl.Result{Code: 7, Text: name}
		return impl.Result{}
	}
	b.path = append(b.path, name)
	var replies []impl.Reply
	for {
		turn := impl.Next(program(th.action...), replies)
		if turn.Over {
			b.path = b.path[:len(b.path)-1]
			b.made[name] = impl.Result{Code: turn.Code, Text: turn.Text}
			return b.made[name]
		}
		_, there := b.m[turn.Name]
		reply := impl.Reply{Has: there}
		if turn.Ask {
			r := b.lies(turn.Name)
			if b.whole != nil {
				return impl.Result{}
			}
			reply.Code, reply.Text = r.Code, r.Text
		}
		replies = append(replies, reply)
	}
}

func tellClean(m model, name string) impl.Result {
	b := telling{m: m, made: map[string]impl.Result{}}
	r := b.lies(name)
	if b.whole != nil {
		return *b.whole
	}
	return r
}

// randomAction asks for some of the names, reads some names from what it finds, and ends in many ways.
func randomAction(r *rand.Rand, names []string) thing {
	name := func() impl.Ins { return literal(names[r.Intn(len(names))]) }
	code := []impl.Ins{literal("")}
	for range r.Intn(4) {
		switch r.Intn(8) {
		case 0, 1, 2:
			code = append(code, name(), ins(impl.OpAsk), ins(impl.OpCat))
		case 3, 4:
			code = append(code, name(), ins(impl.OpHas), ins(impl.OpUnless, len(code)+5), name(), ins(impl.OpAsk), ins(impl.OpCat))
		case 5:
			code = append(code, name(), ins(impl.OpAsk), ins(impl.OpWord, r.Intn(2)), ins(impl.OpAsk), ins(impl.OpCat))
		case 6:
			code = append(code, name(), ins(impl.OpHas), ins(impl.OpCat))
		case 7:
			code = append(code, ins(impl.OpDup), ins(impl.OpUnless, len(code)+5), ins(impl.OpDup), ins(impl.OpFail), literal("u"))
		}
	}
	return thing{action: append(code, ins([]int{15, 15, 15, 15, 15, 14, 9}[r.Intn(7)]))}
}

func randomModel(r *rand.Rand, names []string) model {
	m := model{}
	for i, name := range names {
		switch {
		case r.Intn(8) == 0:
		case r.Intn(4) == 0:
			m[name] = thing{text: []string{"a", "b c", "", "x", "e"}[r.Intn(5)]}
		case r.Intn(6) == 0:
			m[name] = randomAction(r, names)
		default:
			// Mostly what stands further on, so that not all are circles.
			m[name] = randomAction(r, append(slices.Clone(names[i+1:]), "z"))
		}
	}
	return m
}

func TestCleanAtRandom(t *testing.T) {
	r := rand.New(rand.NewSource(4))
	names := []string{"a", "b", "c", "d", "e", "f", "g", "h", "x"}
	seen := map[int]int{}
	for range 4000 {
		m := randomModel(r, names)
		for _, name := range names {
			want := tellClean(m, name)
			seen[want.Code]++
			cleans(t, m, name, want)
		}
	}
	for code := range 7 {
		if code != impl.Spent && seen[code] < 50 {
			t.Errorf("too few results with code %d: %v", code, seen)
		}
	}
}

// Tall spaces, in which each target asks for some of those next to it, so that the depth is met from many sides.
func TestTallSpacesAtRandom(t *testing.T) {
	r := rand.New(rand.NewSource(5))
	seen := map[int]int{}
	for range 1500 {
		n := 55 + r.Intn(15)
		m := tower(n, "src")
		for range r.Intn(12) {
			at := r.Intn(n)
			var list []string
			for range 1 + r.Intn(3) {
				list = append(list, fmt.Sprintf("t%03d", max(0, min(n-1, at-2+r.Intn(12)))))
			}
			if r.Intn(2) == 0 {
				list = append(list, fmt.Sprintf("t%03d", min(n-1, at+1)))
			}
			if at < n-1 {
				m[fmt.Sprintf("t%03d", at)] = asks(list...)
			}
		}
		for _, name := range []string{"t000", "t001", fmt.Sprintf("t%03d", r.Intn(n))} {
			want := tellClean(m, name)
			seen[want.Code]++
			cleans(t, m, name, want)
		}
	}
	for _, code := range []int{0, 6, 7} {
		if seen[code] < 100 {
			t.Errorf("too few results with code %d: %v", code, seen)
		}
	}
}

func TestCleanKeepsItsArgument(t *testing.T) {
	sp := spareSpace()
	was := wholeSpace(sp)
	for _, name := range []string{"a", "b", "d", "none", ""} {
		impl.Clean(sp, name)
	}
	m := tower(5, "t001").space()
	first, second := impl.Clean(m, "t000"), impl.Clean(m, "t000")
	for i := range first.Chain[:cap(first.Chain)] {
		first.Chain[:cap(first.Chain)][i] = "scribbled"
	}
	if !sameResult(second, impl.Result{Code: 6, Chain: towerNames(1, 5)}) || !sameSpace(m, tower(5, "t001").space()) {
		t.Errorf("%+v", second)
	}
	if !sameSpace(wholeSpace(sp), was) {
		t.Error("the argument has changed")
	}
}

// formed asks P4 of one result.
func formed(t *testing.T, r impl.Result, want string) {
	t.Helper()
	s := impl.FormResult(r)
	back, ok := impl.ReadResult(s)
	if s != want || !ok || !sameResult(back, r) {
		t.Errorf("%.100q: %.100q, read as %.100q %v", fmt.Sprint(r), s, fmt.Sprint(back), ok)
	}
}

func TestResultsFormedAndRead(t *testing.T) {
	texts := []string{"", "x", ":", "0:", "1:x", "\n", " ", "\x00", allBytes(), strings.Repeat("\xff", impl.MaxText-1), strings.Repeat("\xff", impl.MaxText)}
	for code := impl.Done; code <= impl.Below; code++ {
		for _, text := range texts {
			want := string(rune('0'+code)) + ":" + text
			formed(t, impl.Result{Code: code, Text: text}, want)
			formed(t, impl.Result{Code: code, Text: text, Chain: []string{}}, want)
		}
	}
}

func TestResultsOfNoForm(t *testing.T) {
	refuseForm := func(r impl.Result) {
		t.Helper()
		if s := impl.FormResult(r); s != "" {
			t.Errorf("%.100q: %.100q", fmt.Sprint(r), s)
		}
	}
	for _, code := range []int{-1 << 63, -10, -1, 6, 7, 8, 9, 10, 48, 256, 1<<63 - 1} {
		refuseForm(impl.Result{Code: code})
		refuseForm(impl.Result{Code: code, Text: "x"})
		refuseForm(impl.Result{Code: code, Chain: []string{"a"}})
	}
	for code := impl.Done; code <= impl.Below; code++ {
		refuseForm(impl.Result{Code: code, Text: strings.Repeat("x", impl.MaxText+1)})
		refuseForm(impl.Result{Code: code, Chain: []string{""}})
		refuseForm(impl.Result{Code: code, Text: "x", Chain: []string{"a", "b"}})
	}
}

func TestTextsOfNoResult(t *testing.T) {
	for _, s := range []string{
		"", "0", "5", ":", "::", ":0", "0x", "00:", "01:", "10:", "-0:", "+0:", " 0:", "0 :", "0;", "a:", "x", "\x00:", "\n0:", "٠:",
		"0:" + strings.Repeat("x", impl.MaxText+1), "5:" + strings.Repeat("\xff", impl.MaxText+1), "0:" + strings.Repeat("x", 100000),
	} {
		if r, ok := impl.ReadResult(s); ok || !sameResult(r, impl.Result{}) {
			t.Errorf("%.100q: %+v %v", s, r, ok)
		}
	}
	for b := range 256 {
		for _, tail := range []string{":", ":x"} {
			s := string([]byte{byte(b)}) + tail
			r, ok := impl.ReadResult(s)
			if want := b >= '0' && b <= '5'; ok != want {
				t.Errorf("%q: %v", s, ok)
			}
			if ok && impl.FormResult(r) != s {
				t.Errorf("%q: %+v", s, r)
			}
			if _, ok := impl.ReadResult("0" + string([]byte{byte(b)}) + "x"); ok != (b == ':') {
				t.Errorf("byte %d for the colon: %v", b, ok)
			}
		}
	}
}
