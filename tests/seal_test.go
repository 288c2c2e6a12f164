package tests

import (
	"fmt"
	"math/big"
	"math/rand"
	"strings"
	"testing"

	"loop.example/kilndeed/impl"
)

// tellSum is the sum of a text in numbers that do not wrap by themselves.
func tellSum(s string) *big.Int {
	wrap := new(big.Int).Lsh(big.NewInt(1), 64)
	sum, _ := new(big.Int).SetString("14695981039346656037", 10)
	factor := big.NewInt(1099511628211)
	for i := range len(s) {
		sum.Xor(sum, big.NewInt(int64(s[i])))
		sum.Mul(sum, factor)
		sum.Mod(sum, wrap)
	}
	return sum
}

// tellSeal is what is sealed under a key, whatever it is.
func tellSeal(form, key string) string {
	return fmt.Sprintf("%016x\n%s", tellSum(key+"\n"+form), form)
}

// seals asks P12 of one valid account and a key, and gives what is sealed.
func seals(t *testing.T, a impl.Account, key string) string {
	t.Helper()
	was := cloneAccount(a)
	s := impl.Seal(a, key)
	if want := tellSeal(tellForm(a), key); s != want {
		t.Fatalf("key %q: %.200q, want %.200q", key, s, want)
	}
	if b, ok := impl.Unseal(s, key); !ok || !sameAccount(a, b) {
		t.Fatalf("key %q: %.200q is unsealed as %.200q %v", key, s, fmt.Sprint(b), ok)
	}
	if !sameAccount(a, was) {
		t.Fatalf("%.300q: the argument has changed", fmt.Sprint(was))
	}
	return s
}

// unsealed asks that a text is nothing under a key.
func unsealed(t *testing.T, what, s, key string) {
	t.Helper()
	if a, ok := impl.Unseal(s, key); ok || len(a.Deeds) != 0 {
		t.Errorf("%s is unsealed with %q: %.100q", what, key, s)
	}
}

func sealKeys() []string {
	return []string{"", "k", "key", " ", "\n", "key\n", "\nkey", "\x00", "\xff", "account 1", "none a\n", allBytes()[:60], allBytes()[196:], strings.Repeat("k", 59), strings.Repeat("k", 60), strings.Repeat("\xff", 60)}
}

func TestSealsOfEachKey(t *testing.T) {
	a := account(noneDeed("a"))
	if s := seals(t, a, "key"); s != "71d8568a03166795\naccount 1\nnone a\n" {
		t.Errorf("%q", s)
	}
	top := makes(t, ledger(), "top")
	keys := sealKeys()
	for _, key := range keys {
		s := seals(t, a, key)
		seals(t, top, key)
		for _, other := range append(keys, key+"\n", key+" ", strings.ToUpper(key)) {
			if other != key {
				unsealed(t, "what another key has sealed", s, other)
			}
		}
	}
}

func TestSizeOfKeys(t *testing.T) {
	a := account(sourceDeed("s", "x"))
	for _, b := range []string{"k", "\n", "\xff"} {
		for _, size := range []int{0, 1, 59, 60} {
			seals(t, a, strings.Repeat(b, size))
		}
		for _, size := range []int{61, 62, 100, 100000} {
			key := strings.Repeat(b, size)
			if s := impl.Seal(a, key); s != "" {
				t.Errorf("%d bytes: %q", size, s)
			}
			unsealed(t, "the sum of a key too long", tellSeal(tellForm(a), key), key)
			unsealed(t, "nothing", "", key)
		}
	}
	// A key of two-byte runes is as long as its bytes.
	if s := impl.Seal(a, strings.Repeat("ä", 31)); s != "" {
		t.Errorf("%q", s)
	}
	seals(t, a, strings.Repeat("ä", 30))
}

// Sums with zeros ahead and sums with the highest bit: all of them have 16 digits.
func TestSumsAtTheirWrap(t *testing.T) {
	a := account(noneDeed("a"))
	seen := map[byte]int{}
	zeros := 0
	for i := range 3000 {
		s := seals(t, a, fmt.Sprint("k", i))
		if seen[s[0]]++; strings.HasPrefix(s, "00") {
			zeros++
		}
		if s[16] != '\n' || strings.Trim(s[:16], "0123456789abcdef") != "" {
			t.Fatalf("%q", s)
		}
	}
	if len(seen) != 16 || seen['0'] < 50 || seen['f'] < 50 || zeros < 2 {
		t.Errorf("too few sums of some kind: %v, %d with two zeros", seen, zeros)
	}
}

func TestTextsThatAreNoSeal(t *testing.T) {
	a := makes(t, ledger(), "mid")
	form := tellForm(a)
	s := seals(t, a, "key")
	for i := range s {
		for _, b := range []byte{0, '\n', ' ', '0', '1', 'a', 'f', 'g', 'A', s[i] ^ 1, s[i] ^ 32, s[i] ^ 128} {
			if b != s[i] {
				unsealed(t, "another byte", s[:i]+string([]byte{b})+s[i+1:], "key")
			}
		}
		unsealed(t, "a beginning", s[:i], "key")
		unsealed(t, "an end", s[i+1:], "key")
		unsealed(t, "a byte left out", s[:i]+s[i+1:], "key")
		unsealed(t, "a byte twice", s[:i+1]+s[i:], "key")
	}
	upper := strings.ToUpper(s[:16])
	if upper == s[:16] {
		t.Fatal("no letter among the digits")
	}
	unsealed(t, "capital digits", upper+s[16:], "key")
	for _, text := range []string{s + "\n", s + s, "\n" + s, " " + s, "0" + s, s[:16] + form, s[:16] + "\r\n" + form, s[:16] + "\n\n" + form, "0x" + s, form, s[:17], form + s[:17]} {
		unsealed(t, "a text", text, "key")
	}
	// The right sum of what is no form.
	long := tellForm(sized(t, impl.MaxForm+1))
	for _, text := range []string{"", "\n", "x", "account 0\n", form[:len(form)-1], form + "\n", form + form, " " + form, strings.Replace(form, "account 3", "account 03", 1), strings.Replace(form, "ask conf 0\n", "", 1), long, "key\n" + form, "\n" + form} {
		unsealed(t, "the sum of what is no form", tellSeal(text, "key"), "key")
		unsealed(t, "the sum of what is no form", tellSeal(text, ""), "")
	}
	// The sum without the key, without the newline, and the other way round.
	for _, sum := range []string{form, "key" + form, form + "key", form + "\nkey", form + "\n", "\n" + form} {
		unsealed(t, "another sum", fmt.Sprintf("%016x\n%s", tellSum(sum), form), "key")
	}
	unsealed(t, "the seal of another account", s[:17]+tellForm(makes(t, ledger(), "opt")), "key")
}

func TestSealsOfWhatHasNoForm(t *testing.T) {
	list := []impl.Account{{}, sized(t, impl.MaxForm+1), wide(impl.MaxDeeds + 1), chain(impl.MaxDepth + 1), account(impl.Deed{}), account(sourceDeed("s", ""), noneDeed("n"))}
	for _, d := range wrongDeeds() {
		list = append(list, account(sourceDeed("s", ""), targetDeed("u", askLink("s", 0)), d))
	}
	for _, a := range list {
		for _, key := range []string{"", "key", strings.Repeat("k", 61)} {
			if s := impl.Seal(a, key); s != "" {
				t.Errorf("%.200q: %.200q", fmt.Sprint(a), s)
			}
		}
	}
	if s := seals(t, sized(t, impl.MaxForm), strings.Repeat("k", 60)); len(s) != 300017 {
		t.Errorf("%d bytes", len(s))
	}
}

func TestSealsAtRandom(t *testing.T) {
	r := rand.New(rand.NewSource(14))
	keys := sealKeys()
	for range 1000 {
		a, key := varied(r), randomText(r, impl.MaxKey)
		s := seals(t, a, key)
		for _, other := range append(keys, randomText(r, impl.MaxKey), spoil(r, key)) {
			b, ok := impl.Unseal(s, other)
			if want := len(other) <= 60 && tellSeal(tellForm(a), other) == s; ok != want || ok != sameAccount(a, b) {
				t.Fatalf("%q sealed with %q, asked with %q: %v", s, key, other, ok)
			}
		}
		changed := spoil(r, s)
		body := ""
		if len(changed) > 17 {
			body = changed[17:]
		}
		b, ok := impl.Unseal(changed, key)
		want, form := tellRead(body)
		if form = form && tellSeal(body, key) == changed; ok != form || ok && !sameAccount(b, want) || !ok && len(b.Deeds) > 0 {
			t.Fatalf("%q with %q: %v, want %v", changed, key, ok, form)
		}
		if form != (changed == s) {
			t.Fatalf("%q is as good as %q", changed, s)
		}
	}
}
