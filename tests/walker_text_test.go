package tests

import (
	"fmt"
	"math/rand"
	"regexp"
	"strconv"
	"strings"
	"testing"

	"loop.example/landmarch/impl"
)

// plainNumber is a number without a sign or needless zeros, of as many digits as any bound has.
const plainNumber = `(0|[1-9][0-9]{0,2})`

// walkerForm is how the text of a walker is written; bounds are asked beside it.
var walkerForm = regexp.MustCompile(`\Awalker ` + plainNumber + ` at ` + plainNumber + ` coins ` + plainNumber + ` order ` + plainNumber + ` code ` + plainNumber + `\z`)

// readPlainly reads a walker by the form of its text and the bounds of its numbers.
func readPlainly(s string) (impl.WlkWalker, bool) {
	found := walkerForm.FindStringSubmatch(s)
	if found == nil {
		return impl.WlkWalker{}, false
	}
	var n [5]int
	for i := range n {
		n[i], _ = strconv.Atoi(found[i+1])
	}
	if n[0] < 1 || n[0] > 9 || n[1] > 31 || n[2] > 99 || n[3] > 900 || n[4] > 9 {
		return impl.WlkWalker{}, false
	}
	return impl.WlkWalker{Id: n[0], At: n[1], Coins: n[2], Seq: n[3], Last: n[4]}, true
}

// askRead asks what WlkRead makes of a text, and that what it reads has that text.
func askRead(t *testing.T, s string) {
	t.Helper()
	got, ok := impl.WlkRead(s)
	want, wantOk := readPlainly(s)
	if got != want || ok != wantOk {
		t.Fatalf("WlkRead(%q) is %v, %v, not %v, %v", s, got, ok, want, wantOk)
	}
	if ok && impl.WlkText(got) != s {
		t.Fatalf("WlkText of what WlkRead reads from %q is %q", s, impl.WlkText(got))
	}
}

// askText asks the text of a walker, and that it is read back.
func askText(t *testing.T, w impl.WlkWalker, has bool) {
	t.Helper()
	want := ""
	if has {
		want = fmt.Sprintf("walker %d at %d coins %d order %d code %d", w.Id, w.At, w.Coins, w.Seq, w.Last)
	}
	s := impl.WlkText(w)
	if s != want {
		t.Fatalf("WlkText(%v) is %q, not %q", w, s, want)
	}
	got, ok := impl.WlkRead(s)
	if ok != has || has && got != w || !has && got != (impl.WlkWalker{}) {
		t.Fatalf("WlkRead(%q) is %v, %v", s, got, ok)
	}
}

// endWalkers is walkers with each number at both ends of its bounds.
func endWalkers() []impl.WlkWalker {
	var out []impl.WlkWalker
	for _, id := range []int{1, 9} {
		for _, at := range []int{0, 31} {
			for _, coins := range []int{0, 99} {
				for _, seq := range []int{0, 900} {
					for _, last := range []int{0, 9} {
						out = append(out, impl.WlkWalker{Id: id, At: at, Coins: coins, Seq: seq, Last: last})
					}
				}
			}
		}
	}
	return out
}

func TestP71TextsOfWalkers(t *testing.T) {
	for _, w := range endWalkers() {
		askText(t, w, true)
		for _, at := range numbersAround(0, 31) {
			w.At = at
			askText(t, w, at >= 0 && at <= 31)
		}
	}
	for _, w := range endWalkers() {
		for _, bound := range walkerBounds {
			for _, n := range numbersAround(bound.low, bound.high) {
				v := w
				bound.set(&v, n)
				askText(t, v, n >= bound.low && n <= bound.high)
			}
		}
	}
	askText(t, impl.WlkWalker{}, false)
}

func TestP71TextsOfSomeWalkers(t *testing.T) {
	if got := impl.WlkText(impl.WlkWalker{Id: 2, At: 7, Coins: 10, Seq: 305, Last: 1}); got != "walker 2 at 7 coins 10 order 305 code 1" {
		t.Error(got)
	}
	w, ok := impl.WlkRead("walker 9 at 31 coins 99 order 900 code 9")
	if !ok || w != (impl.WlkWalker{Id: 9, At: 31, Coins: 99, Seq: 900, Last: 9}) {
		t.Error(w, ok)
	}
}

func TestP71NearlyTexts(t *testing.T) {
	for _, s := range []string{
		"", " ", "walker", "walker 1", "         ",
		"walker 1 at 2 coins 3 order 4",
		"walker 1 at 2 coins 3 order 4 code",
		"walker 1 at 2 coins 3 order 4 code ",
		"walker 1 at 2 coins 3 order 4 code 5 ",
		" walker 1 at 2 coins 3 order 4 code 5",
		"walker 1 at 2 coins 3 order 4 code 5\n",
		"walker 1 at 2 coins 3 order 4 code 5\x00",
		"walker 1 at 2 coins 3 order 4 code 5 1 1 1",
		"walker 1 at 2 coins 3 order 4 code 5 coming",
		"walker 1 at 2 coins 3 order 4 code 5walker 1 at 2 coins 3 order 4 code 5",
		"walker 01 at 2 coins 3 order 4 code 5",
		"walker 1 at 02 coins 3 order 4 code 5",
		"walker 1 at 2 coins 00 order 4 code 5",
		"walker 1 at 2 coins 3 order 004 code 5",
		"walker 1 at 2 coins 3 order 4 code 05",
		"walker +1 at 2 coins 3 order 4 code 5",
		"walker 1 at -0 coins 3 order 4 code 5",
		"walker 1 at -2 coins 3 order 4 code 5",
		"walker 1 at 2 coins +3 order 4 code 5",
		"walker 1 at 2 coins 3 order 4 code -5",
		"walker  1 at 2 coins 3 order 4 code 5",
		"walker 1  at 2 coins 3 order 4 code 5",
		"walker1 at 2 coins 3 order 4 code 5",
		"walker 1 at 2 coins 3 order 4 code5",
		"walker\t1 at 2 coins 3 order 4 code 5",
		"Walker 1 at 2 coins 3 order 4 code 5",
		"walker 1 AT 2 coins 3 order 4 code 5",
		"walker 1 at 2 coin 3 order 4 code 5",
		"walker 1 at 2 coins 3 code 4 order 5",
		"walker 1_0 at 2 coins 3 order 4 code 5",
		"walker 0x1 at 2 coins 3 order 4 code 5",
		"walker 1 at 2 coins 3 order 1e1 code 5",
		"walker 1 at 2 coins 1_0 order 4 code 5",
		"walker 1 at 2 coins  order 4 code 5",
		"walker  at 2 coins 3 order 4 code 5",
		"walker one at 2 coins 3 order 4 code 5",
		"walker 1 at x coins 3 order 4 code 5",
		"walker 1 at 2 coins x order 4 code 5",
		"walker 1 at 2 coins 3 order x code 5",
		"walker 1 at 2 coins 3 order 4 code x",
		"walker \u0661 at 2 coins 3 order 4 code 5",
		"walker 0 at 2 coins 3 order 4 code 5",
		"walker 10 at 2 coins 3 order 4 code 5",
		"walker 1 at 32 coins 3 order 4 code 5",
		"walker 1 at 2 coins 100 order 4 code 5",
		"walker 1 at 2 coins 3 order 901 code 5",
		"walker 1 at 2 coins 3 order 4 code 10",
		"walker 18446744073709551617 at 2 coins 3 order 4 code 5",
		"walker 1 at 2 coins 18446744073709551616 order 4 code 5",
		"walker 1 at 2 coins 9223372036854775808 order 4 code 5",
	} {
		if w, ok := impl.WlkRead(s); ok || w != (impl.WlkWalker{}) {
			t.Errorf("WlkRead(%q) is %v, %v", s, w, ok)
		}
	}
}

// Each byte of some texts is left out, doubled, turned into each other one, and has each one put ahead of it.
func TestP71TextsWithOneByteTurned(t *testing.T) {
	for _, s := range []string{
		"walker 1 at 0 coins 0 order 0 code 0",
		"walker 9 at 31 coins 99 order 900 code 9",
		"walker 5 at 10 coins 10 order 89 code 1",
	} {
		askRead(t, s)
		for i := 0; i <= len(s); i++ {
			for b := range 256 {
				with := string([]byte{byte(b)})
				askRead(t, s[:i]+with+s[i:])
				if i < len(s) {
					askRead(t, s[:i]+with+s[i+1:])
				}
			}
			if i < len(s) {
				askRead(t, s[:i]+s[i+1:])
			}
			askRead(t, s[:i])
			askRead(t, s[i:])
		}
	}
}

func TestP71TextsOfManyBytes(t *testing.T) {
	s := "walker 1 at 2 coins 3 order 4 code 5"
	for size := len(s) + 1; size < 130; size++ {
		more := size - len(s)
		askRead(t, s+strings.Repeat(" ", more))
		askRead(t, strings.Repeat(" ", more)+s)
		askRead(t, s+strings.Repeat("5", more))
		askRead(t, "walker "+strings.Repeat("0", more)+s[len("walker "):])
		askRead(t, strings.Replace(s, " ", strings.Repeat(" ", more+1), 1))
	}
	for _, size := range []int{1 << 10, 1 << 20} {
		askRead(t, strings.Repeat(" ", size))
		askRead(t, s+strings.Repeat("\n", size))
		askRead(t, "walker "+strings.Repeat("1", size))
	}
}

func TestP71TextsOfAnyBytes(t *testing.T) {
	r := rand.New(rand.NewSource(11))
	words := []string{"walker", "at", "coins", "order", "code", " ", "  ", "0", "1", "9", "31", "32", "900", "-1", "+1", "\xff", "\x00", "é"}
	for range 20000 {
		s := ""
		for range r.Intn(24) {
			s += words[r.Intn(len(words))]
		}
		askRead(t, s)
		bytes := make([]byte, r.Intn(110))
		r.Read(bytes)
		askRead(t, string(bytes))
	}
	for range 20000 {
		numbers := []any{r.Intn(12), r.Intn(40), r.Intn(120), r.Intn(1000), r.Intn(12)}
		askRead(t, fmt.Sprintf("walker %d at %d coins %d order %d code %d", numbers...))
	}
}
