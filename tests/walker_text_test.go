package tests

import (
	"fmt"
	"math/rand"
	"regexp"
	"strconv"
	"testing"

	"loop.example/landmarch/impl"
)

// plainNumber is a number without a sign or needless zeros, of as many digits as any bound has.
const plainNumber = `(0|[1-9][0-9]{0,2})`

// walkerForm is how the text of a walker is written; bounds are asked beside it.
var walkerForm = regexp.MustCompile(`\Awalker ` + plainNumber + ` at ` + plainNumber + ` coins ` + plainNumber + ` order ` + plainNumber + ` code ` + plainNumber + `\z`)

// readPlainly reads a walker by the form of its text and the bounds of its numbers.
func readPlainly(s string) (impl.WlkWalker, bool) {
	found := walkerForm.FindStringSubmatch(s)
	if found == nil {
		return impl.WlkWalker{}, false
	}
	var n [5]int
	for i := range n {
		n[i], _ = strconv.Atoi(found[i+1])
	}
	if n[0] < 1 || n[0] > 9 || n[1] > 31 || n[2] > 99 || n[3] > 900 || n[4] > 9 {
		return impl.WlkWalker{}, false
	}
	return impl.WlkWalker{Id: n[0], At: n[1], Coins: n[2], Seq: n[3], Last: n[4]}, true
}

// walkerTexts is the texts of walkers.
var walkerTexts = textKind[impl.WlkWalker]{"walker", impl.WlkRead, impl.WlkText, readPlainly}

// askWalkerText asks for the text of a walker.
func askWalkerText(t *testing.T, w impl.WlkWalker, has bool) {
	t.Helper()
	want := ""
	if has {
		want = fmt.Sprintf("walker %d at %d coins %d order %d code %d", w.Id, w.At, w.Coins, w.Seq, w.Last)
	}
	walkerTexts.askWritten(t, w, want)
}

// endWalkers is walkers with each number at both ends of its bounds.
func endWalkers() []impl.WlkWalker {
	var out []impl.WlkWalker
	for _, id := range []int{1, 9} {
		for _, at := range []int{0, 31} {
			for _, coins := range []int{0, 99} {
				for _, seq := range []int{0, 900} {
					for _, last := range []int{0, 9} {
						out = append(out, impl.WlkWalker{Id: id, At: at, Coins: coins, Seq: seq, Last: last})
					}
				}
			}
		}
	}
	return out
}

func TestP71TextsOfWalkers(t *testing.T) {
	for _, w := range endWalkers() {
		askWalkerText(t, w, true)
		for _, at := range numbersAround(0, 31) {
			w.At = at
			askWalkerText(t, w, at >= 0 && at <= 31)
		}
	}
	for _, w := range endWalkers() {
		for _, bound := range walkerBounds {
			for _, n := range numbersAround(bound.low, bound.high) {
				v := w
				bound.set(&v, n)
				askWalkerText(t, v, n >= bound.low && n <= bound.high)
			}
		}
	}
	askWalkerText(t, impl.WlkWalker{}, false)
}

func TestP71TextsOfSomeWalkers(t *testing.T) {
	if got := impl.WlkText(impl.WlkWalker{Id: 2, At: 7, Coins: 10, Seq: 305, Last: 1}); got != "walker 2 at 7 coins 10 order 305 code 1" {
		t.Error(got)
	}
	w, ok := impl.WlkRead("walker 9 at 31 coins 99 order 900 code 9")
	if !ok || w != (impl.WlkWalker{Id: 9, At: 31, Coins: 99, Seq: 900, Last: 9}) {
		t.Error(w, ok)
	}
}

func TestP71NearlyTexts(t *testing.T) {
	for _, s := range []string{
		"", " ", "walker", "walker 1", "         ",
		"walker 1 at 2 coins 3 order 4",
		"walker 1 at 2 coins 3 order 4 code",
		"walker 1 at 2 coins 3 order 4 code ",
		"walker 1 at 2 coins 3 order 4 code 5 ",
		" walker 1 at 2 coins 3 order 4 code 5",
		"walker 1 at 2 coins 3 order 4 code 5\n",
		"walker 1 at 2 coins 3 order 4 code 5\x00",
		"walker 1 at 2 coins 3 order 4 code 5 1 1 1",
		"walker 1 at 2 coins 3 order 4 code 5 coming",
		"walker 1 at 2 coins 3 order 4 code 5walker 1 at 2 coins 3 order 4 code 5",
		"walker 01 at 2 coins 3 order 4 code 5",
		"walker 1 at 02 coins 3 order 4 code 5",
		"walker 1 at 2 coins 00 order 4 code 5",
		"walker 1 at 2 coins 3 order 004 code 5",
		"walker 1 at 2 coins 3 order 4 code 05",
		"walker +1 at 2 coins 3 order 4 code 5",
		"walker 1 at -0 coins 3 order 4 code 5",
		"walker 1 at -2 coins 3 order 4 code 5",
		"walker 1 at 2 coins +3 order 4 code 5",
		"walker 1 at 2 coins 3 order 4 code -5",
		"walker  1 at 2 coins 3 order 4 code 5",
		"walker 1  at 2 coins 3 order 4 code 5",
		"walker1 at 2 coins 3 order 4 code 5",
		"walker 1 at 2 coins 3 order 4 code5",
		"walker\t1 at 2 coins 3 order 4 code 5",
		"Walker 1 at 2 coins 3 order 4 code 5",
		"walker 1 AT 2 coins 3 order 4 code 5",
		"walker 1 at 2 coin 3 order 4 code 5",
		"walker 1 at 2 coins 3 code 4 order 5",
		"walker 1_0 at 2 coins 3 order 4 code 5",
		"walker 0x1 at 2 coins 3 order 4 code 5",
		"walker 1 at 2 coins 3 order 1e1 code 5",
		"walker 1 at 2 coins 1_0 order 4 code 5",
		"walker 1 at 2 coins  order 4 code 5",
		"walker  at 2 coins 3 order 4 code 5",
		"walker one at 2 coins 3 order 4 code 5",
		"walker 1 at x coins 3 order 4 code 5",
		"walker 1 at 2 coins x order 4 code 5",
		"walker 1 at 2 coins 3 order x code 5",
		"walker 1 at 2 coins 3 order 4 code x",
		"walker \u0661 at 2 coins 3 order 4 code 5",
		"walker 0 at 2 coins 3 order 4 code 5",
		"walker 10 at 2 coins 3 order 4 code 5",
		"walker 1 at 32 coins 3 order 4 code 5",
		"walker 1 at 2 coins 100 order 4 code 5",
		"walker 1 at 2 coins 3 order 901 code 5",
		"walker 1 at 2 coins 3 order 4 code 10",
		"walker 18446744073709551617 at 2 coins 3 order 4 code 5",
		"walker 1 at 2 coins 18446744073709551616 order 4 code 5",
		"walker 1 at 2 coins 9223372036854775808 order 4 code 5",
	} {
		walkerTexts.askNone(t, s)
	}
}

func TestP71TextsWithOneByteTurned(t *testing.T) {
	for _, s := range []string{
		"walker 1 at 0 coins 0 order 0 code 0",
		"walker 9 at 31 coins 99 order 900 code 9",
		"walker 5 at 10 coins 10 order 89 code 1",
	} {
		walkerTexts.askOneByteTurned(t, s)
	}
}

func TestP71TextsOfManyBytes(t *testing.T) {
	walkerTexts.askManyBytes(t, "walker 1 at 2 coins 3 order 4 code 5")
}

func TestP71TextsOfAnyBytes(t *testing.T) {
	walkerTexts.askAnyBytes(t, 11, []string{"walker", "at", "coins", "order", "code", "31", "32", "900"})
	r := rand.New(rand.NewSource(12))
	for range 20000 {
		numbers := []any{r.Intn(12), r.Intn(40), r.Intn(120), r.Intn(1000), r.Intn(12)}
		walkerTexts.askRead(t, fmt.Sprintf("walker %d at %d coins %d order %d code %d", numbers...))
	}
}
