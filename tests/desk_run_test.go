package tests

import (
	"fmt"
	"math/rand"
	"slices"
	"strings"
	"testing"

	"loop.example/landmarch/impl"
)

// exampleHead and exampleLines are the document's example.
func exampleHead() []string {
	return []string{"map 3 3", "servers 2", "walker 1 at 2 coins 9 order 0 code 0", "walker 2 at 3 coins 0 order 0 code 0"}
}

func exampleLines() []string {
	return []string{
		"grant 0 0", "grant 1 1", "bring 0", "bring 0", "ask 1 throw right 4", "say 1", "twice 0", "bring 0", "bring 0", "bring 0", "bring 0",
		"ask 1 step right", "say 1", "bring 0", "tick 0 0", "lose 1", "fall 0", "grant 0 1", "bring 0", "bring 0", "bring 0", "tick 1 0", "bring 0", "bring 0",
	}
}

// exampleBoard is what the document's example answers.
func exampleBoard() []string {
	return []string{
		"walker 1 at 3 coins 5 order 2 code 1",
		"walker 2 at 3 coins 0 order 0 code 0",
		"cell 0 ground 0 air 0 0",
		"cell 1 ground 4 air 0 0",
		"cell 2 ground 0 air 0 0",
		"done 1 1 code 1",
		"done 1 2 code 1",
	}
}

func TestP65TheDocumentsExample(t *testing.T) {
	askTold(t, exampleHead(), exampleLines(), exampleBoard()...)
	// Behind some of its lines: nothing yet, coins in the air, the walker on its way, the coins there.
	first, second := "walker 1 at 2 coins 9 order 0 code 0", "walker 2 at 3 coins 0 order 0 code 0"
	quiet := []string{"cell 0 ground 0 air 0 0", "cell 1 ground 0 air 0 0", "cell 2 ground 0 air 0 0"}
	flying := []string{"cell 0 ground 0 air 0 0", "cell 1 ground 0 air 4 0", "cell 2 ground 0 air 0 0"}
	fallen := []string{"cell 0 ground 0 air 0 0", "cell 1 ground 4 air 0 0", "cell 2 ground 0 air 0 0"}
	thrower, goer := "walker 1 at 2 coins 5 order 1 code 1", "walker 1 at 3 coins 5 order 2 code 1 coming"
	for lines, want := range map[int][]string{
		0:  slices.Concat([]string{first, second}, quiet),
		7:  slices.Concat([]string{first, second}, quiet),
		8:  slices.Concat([]string{thrower, second}, flying),
		9:  slices.Concat([]string{thrower, second}, flying),
		10: slices.Concat([]string{thrower, second}, flying, []string{"done 1 1 code 1"}),
		11: slices.Concat([]string{thrower, second}, flying, []string{"done 1 1 code 1"}),
		14: slices.Concat([]string{goer, second}, flying, []string{"done 1 1 code 1"}),
		19: slices.Concat([]string{goer, second}, flying, []string{"done 1 1 code 1", "done 1 2 code 1"}),
		23: slices.Concat([]string{goer, second}, fallen, []string{"done 1 1 code 1", "done 1 2 code 1"}),
	} {
		askTold(t, exampleHead(), exampleLines()[:lines], want...)
	}
}

// Every kind of order, each with its code, told by one server that holds all.
func TestP65EveryKindOfOrder(t *testing.T) {
	head := []string{"map 2 2", "servers 1", "walker 3 at 1 coins 6 order 10 code 2", "walker 7 at 0 coins 98 order 0 code 0"}
	lines := []string{"grant 0 0", "grant 1 0", "bring 0", "bring 0"}
	do := func(order string) {
		lines = append(lines, "ask "+order, "say "+order[:1], "bring 0", "bring 0")
	}
	for _, order := range []string{
		"3 drop 4", "3 pick 1", "3 pick 9", "3 give 7 2", "3 give 7 1", "3 give 5 1", "3 drop 9", "7 rest", "7 throw right 1", "7 pick 3", "3 throw right 2", "3 step left", "3 step left", "7 step left",
	} {
		do(order)
	}
	askTold(t, head, lines,
		"walker 3 at 0 coins 0 order 20 code 2",
		"walker 7 at 0 coins 99 order 4 code 2",
		"cell 0 ground 3 air 0 0",
		"cell 1 ground 0 air 2 0",
		"done 3 11 code 1",
		"done 3 12 code 1",
		"done 3 13 code 6",
		"done 3 14 code 5",
		"done 3 15 code 1",
		"done 3 16 code 4",
		"done 3 17 code 3",
		"done 7 1 code 1",
		"done 7 2 code 7",
		"done 7 3 code 5",
		"done 3 18 code 1",
		"done 3 19 code 1",
		"done 3 20 code 2",
		"done 7 4 code 2",
	)
}

// Who falls, is lost and rises again, over the border to the left.
func TestP65EveryKindOfLine(t *testing.T) {
	head := []string{"map 2 3", "servers 3", "walker 9 at 3 coins 1 order 899 code 8"}
	lines := []string{
		"grant 1 2", "fall 2", "bring 0", "rise 2", "grant 1 2", "twice 0", "lose 0", "bring 0",
		"ask 9 step left", "say 9", "bring 0", "bring 0", "grant 0 1", "bring 0", "tick 2 1",
	}
	cells := []string{"cell 0 ground 0 air 0 0", "cell 1 ground 0 air 0 0", "done 9 900 code 1"}
	askTold(t, head, lines, append([]string{"walker 9 at 2 coins 1 order 900 code 1 coming"}, cells...)...)
	askTold(t, head, append(lines, "bring 0"), append([]string{"walker 9 at 2 coins 1 order 900 code 1"}, cells...)...)
	// There are no more numbers for its orders.
	askTold(t, head, append(lines, "bring 0", "bring 0", "ask 9 rest", "say 9", "bring 0", "bring 0"), append([]string{"walker 9 at 2 coins 1 order 900 code 1"}, cells...)...)
}

// Lines that are ones by which nothing happens: what they name is not there.
func TestP65LinesOfWhatIsNotThere(t *testing.T) {
	lines := []string{
		"grant 3 0", "grant 0 2", "grant 99999 99999", "tick 2 0", "tick 0 3", "tick 99999 0", "say 0", "say 3", "say 10", "say 99999", "ask 3 rest", "ask 9 give 1 1",
		"bring 0", "bring 40", "bring 99999", "lose 0", "lose 99999", "twice 0", "twice 99999", "fall 2", "fall 99999", "rise 0", "rise 99999", "tick 0 0", "say 1",
	}
	askTold(t, exampleHead(), lines, askBoard(t, impl.WldNew(impl.PlcMap{Cells: 3, Width: 3}, []impl.WlkWalker{{Id: 1, At: 2, Coins: 9}, {Id: 2, At: 3}}, 2))...)
	askTold(t, exampleHead(), append(lines, exampleLines()...), exampleBoard()...)
}

// askAllOnes asks for P65 of lines that are all ones: against the same events told one by one.
func askAllOnes(t *testing.T, first impl.WldWorld, events []impl.WldEvent) impl.WldWorld {
	t.Helper()
	w := first
	for _, e := range events {
		w = impl.WldStep(w, e)
	}
	head, lines := headOfWorld(first), eventLines(events)
	if len(lines) != len(events) {
		t.Fatalf("the test's own %+v are not all lines", events)
	}
	if got, want := impl.DskRun(head, lines), impl.DskBoard(w); !slices.Equal(got, want) {
		t.Fatalf("DskRun(%q, %q) is\n%q, not\n%q", head, lines, got, want)
	}
	return w
}

// tellable is things that happen, those left out that no line is.
func tellable(events []impl.WldEvent) []impl.WldEvent {
	return slices.DeleteFunc(slices.Clone(events), func(e impl.WldEvent) bool { return eventLine(e) == "" })
}

func TestP65LongRuns(t *testing.T) {
	d := newDeskReader()
	tally := map[string]int{}
	eachRun(t, 491, []int{0, 1, 2, 5, 20, 100, 200, 400, 400}, func(first impl.WldWorld, events []impl.WldEvent, _ impl.WldWorld) {
		events = tellable(events)
		for _, e := range events {
			tally[strings.Split(eventLine(e), " ")[0]]++
		}
		w := askAllOnes(t, first, events)
		if want := askDesk(t, d, headOfWorld(first), eventLines(events)); !sameWorld(w, want) {
			t.Fatalf("behind %+v there is%s", events, worldsApart(w, want))
		}
		countBoard(impl.DskBoard(w), tally)
	})
	askTally(t, tally, 100, "grant", "tick", "say", "bring", "lose", "twice", "fall", "rise", "ask")
	askTally(t, tally, 50, "code 1", "code 2", "code 4", "code 6", "code 7", "a walker of 10 words", "ground")
}

// Runs in which parcels pile up, so that walkers are on their way and coins in the air from both sides.
func TestP65WhereParcelsPileUp(t *testing.T) {
	tally := map[string]int{}
	r := rand.New(rand.NewSource(492))
	for _, m := range calmMaps {
		for servers := 1; servers <= 3; servers++ {
			for _, count := range []int{60, 150, 250, 400} {
				first := impl.WldNew(m, nineWalkers(m.Cells*m.Width), servers)
				_, events := ranFor(t, first, count, func(w impl.WldWorld) impl.WldEvent {
					if r.Intn(20) == 0 {
						return someEvent(r, w, 10)
					}
					return pilingEvent(r, w, r.Intn(2))
				})
				countBoard(impl.DskBoard(askAllOnes(t, first, tellable(events))), tally)
			}
		}
	}
	askTally(t, tally, 10, "a walker of 11 words", "air from the left", "air from the right")
}

// noneLines is lines that are none, each nearly one that is.
func noneLines() []string {
	return []string{
		"", " ", "brin 0", "bring", "bring  0", " bring 0", "bring 0 ", "bring 0 0", "bring 00", "bring -1", "bring +0", "bring 100000", "Bring 0", "bring 0\n",
		"grant 0", "grant 0 0 0", "grant 0 0 1 1 1", "tick 0", "fall 0 1", "rise", "say one", "ask 1", "ask 1 1 rest", "ask 1 give 1 1", "ask 0 rest", "ask 1 drop 10", "ask 1 rest 1",
		"map 3 3", "walker 1 at 2 coins 9 order 0 code 0", "done 1 1 code 1", "line 1", strings.Repeat("x", 100), strings.Repeat("x", 101), "bring 0" + strings.Repeat(" ", 94),
	}
}

// Lines that are none, at the front, in the middle, at the end and all over: each is told by its place, and the others happen as without them.
func TestP65LinesThatAreNone(t *testing.T) {
	lines := exampleLines()
	for _, none := range noneLines() {
		for place := 0; place <= len(lines); place++ {
			askTold(t, exampleHead(), slices.Insert(slices.Clone(lines), place, none), append([]string{fmt.Sprintf("line %d", place+1)}, exampleBoard()...)...)
		}
		askTold(t, exampleHead(), append([]string{none, none, none}, lines...), append([]string{"line 1", "line 2", "line 3"}, exampleBoard()...)...)
	}
	var mixed, want []string
	for i, line := range lines {
		mixed = append(mixed, line, noneLines()[i])
		want = append(want, fmt.Sprintf("line %d", 2*i+2))
	}
	askTold(t, exampleHead(), mixed, append(want, exampleBoard()...)...)
	mixed, want = noneLines(), nil
	for i := range mixed {
		want = append(want, fmt.Sprintf("line %d", i+1))
	}
	bare := []string{"map 2 2", "servers 1"}
	askTold(t, bare, mixed, append(want, "cell 0 ground 0 air 0 0", "cell 1 ground 0 air 0 0")...)
	askTold(t, bare, nil, "cell 0 ground 0 air 0 0", "cell 1 ground 0 air 0 0")
	askTold(t, bare, []string{""}, "line 1", "cell 0 ground 0 air 0 0", "cell 1 ground 0 air 0 0")
	askTold(t, exampleHead(), nil, "walker 1 at 2 coins 9 order 0 code 0", "walker 2 at 3 coins 0 order 0 code 0",
		"cell 0 ground 0 air 0 0", "cell 1 ground 0 air 0 0", "cell 2 ground 0 air 0 0")
}

func TestP65HeadsThatAreWrong(t *testing.T) {
	for _, lines := range [][]string{nil, {""}, {"grant 0 0"}, exampleLines(), noneLines(), make([]string, 400), make([]string, 401), make([]string, 5000)} {
		askTold(t, nil, lines, "head 1")
		askTold(t, []string{"map 3 3"}, lines, "head 2")
		askTold(t, []string{"servers 3"}, lines, "head 1")
		askTold(t, []string{"map 3 3", "servers 0"}, lines, "head 2")
		askTold(t, []string{"map 3 3", "servers 4"}, lines, "head 2")
		askTold(t, []string{"map 3 9", "servers 4", ""}, lines, "head 1")
		askTold(t, append(exampleHead(), "walker 2 at 0 coins 0 order 0 code 0"), lines, "head 5")
		askTold(t, append(exampleHead(), "walker 3 at 9 coins 0 order 0 code 0"), lines, "head 5")
		askTold(t, append(exampleHead(), exampleLines()...), lines, "head 5")
		askTold(t, append(headOf(impl.PlcMap{Cells: 2, Width: 2}, 1, nineWalkers(4)), ""), lines, "head 12")
		askTold(t, make([]string, 401), lines, "head 1")
	}
	d := newDeskReader()
	for place := range rightHead() {
		for _, line := range wrongLines(place) {
			head := rightHead()
			head[place] = line
			askTold(t, head, exampleLines(), fmt.Sprintf("head %d", place+1))
			askDesk(t, d, head, noneLines())
		}
	}
}

// DskMaxLines lines are run, and one more is too long, whatever they are.
func TestP65TheMostLines(t *testing.T) {
	d := newDeskReader()
	for _, lines := range [][]string{{""}, {"bring 0"}, exampleLines(), noneLines(), {"grant 0 0", "bring 0", "ask 1 rest", "say 1"}} {
		many := slices.Repeat(lines, 1+5000/len(lines))
		for _, count := range []int{399, 400} {
			askDesk(t, d, exampleHead(), many[:count])
			if got := impl.DskRun(exampleHead(), many[:count]); len(got) < 5 {
				t.Errorf("of %d lines there is %q", count, got)
			}
		}
		for _, count := range []int{401, 402, 800, 5000} {
			askTold(t, exampleHead(), many[:count], "long")
		}
	}
	// The last one happens, and is told of if it is none.
	quiet := slices.Repeat([]string{"fall 0"}, 376)
	askTold(t, exampleHead(), append(slices.Clone(exampleLines()), quiet...), exampleBoard()...)
	askTold(t, exampleHead(), append(slices.Clone(exampleLines()), append(quiet[1:], "fal 0")...), append([]string{"line 400"}, exampleBoard()...)...)
	quiet = slices.Repeat([]string{"rise 1"}, 376)
	askTold(t, exampleHead(), append(quiet, exampleLines()...), exampleBoard()...)
	askTold(t, exampleHead(), append([]string{"rise 1"}, append(quiet, exampleLines()...)...), "long")
}

// runOfLines is the world behind the lines that are ones.
func runOfLines(first impl.WldWorld, lines []string) impl.WldWorld {
	var events []impl.WldEvent
	for _, line := range lines {
		if e, ok := impl.DskEvent(line); ok {
			events = append(events, e)
		}
	}
	return impl.WldRun(first, events)
}

// toldOfKind is those lines of what is told that begin with a word, in order.
func toldOfKind(told []string, word string) []string {
	return slices.DeleteFunc(slices.Clone(told), func(line string) bool { return !strings.HasPrefix(line, word+" ") })
}

// askBegins asks that a list is the beginning of another one.
func askBegins[T comparable](t *testing.T, what string, first, all []T) {
	t.Helper()
	if len(first) > len(all) || !slices.Equal(first, all[:len(first)]) {
		t.Fatalf("%s behind the first lines are no beginning of those behind all: %v, %v", what, first, all)
	}
}

// askCuts asks for P66 of a run that is cut at some places: of notes and logs, and of what is told of lines that are none.
func askCuts(t *testing.T, first impl.WldWorld, lines []string, every int) {
	t.Helper()
	head := headOfWorld(first)
	all, world := impl.DskRun(head, lines), runOfLines(first, lines)
	if board := toldOfKind(all, "line"); !slices.Equal(all[len(board):], boardPlainly(world)) {
		t.Fatalf("DskRun(%q, %q) is not the board of the world behind them: %q", head, lines, all)
	}
	for cut := 0; cut <= len(lines); cut += every {
		told, w := impl.DskRun(head, lines[:cut]), runOfLines(first, lines[:cut])
		askBegins(t, "the notes that are told", toldOfKind(told, "done"), toldOfKind(all, "done"))
		askBegins(t, "the lines that are none", toldOfKind(told, "line"), toldOfKind(all, "line"))
		askBegins(t, "the notes", w.Notes, world.Notes)
		for cell := range w.Stores {
			askBegins(t, "the records", w.Stores[cell].Recs, world.Stores[cell].Recs)
		}
		if got := toldOfKind(told, "done"); len(got) != len(w.Notes) {
			t.Fatalf("behind %d lines there are %d notes, and told are %q", cut, len(w.Notes), got)
		}
	}
}

func TestP66RunsCutAnywhere(t *testing.T) {
	askCuts(t, impl.WldNew(impl.PlcMap{Cells: 3, Width: 3}, []impl.WlkWalker{{Id: 1, At: 2, Coins: 9}, {Id: 2, At: 3}}, 2), exampleLines(), 1)
	r := rand.New(rand.NewSource(493))
	notes, records := 0, 0
	eachRun(t, 494, []int{3, 60, 250}, func(first impl.WldWorld, events []impl.WldEvent, w impl.WldWorld) {
		lines := eventLines(events)
		for range oneOf(r, 0, 1, 20) {
			lines = slices.Insert(lines, r.Intn(len(lines)+1), noneLines()[r.Intn(len(noneLines()))])
		}
		askCuts(t, first, lines, 1+len(lines)/25)
		notes += len(w.Notes)
		for _, s := range w.Stores {
			records += len(s.Recs)
		}
	})
	if notes < 300 || records < 400 {
		t.Errorf("there are but %d notes and %d records", notes, records)
	}
}

// Runs of any lines, ones and none among each other, by the words.
func TestP65P66AnyLines(t *testing.T) {
	d := newDeskReader()
	r := rand.New(rand.NewSource(495))
	words := deskWords()
	for range 300 {
		m := okMaps()[r.Intn(21)]
		list := okWalkers9(r, m)
		var lines []string
		for range oneOf(r, 0, 1, 10, 100) {
			line := words[r.Intn(11)]
			for range 1 + r.Intn(3) {
				line += " " + words[r.Intn(len(words))]
			}
			lines = append(lines, line)
		}
		first := impl.WldNew(m, list, 1+r.Intn(3))
		askDesk(t, d, headOfWorld(first), lines)
		askCuts(t, first, lines, 1+len(lines)/5)
	}
}
