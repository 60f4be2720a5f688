package tests

import (
	"fmt"
	"math/rand"
	"slices"
	"strings"
	"testing"

	"loop.example/landmarch/impl"
)

// askBoardIs asks for a board line by line.
func askBoardIs(t *testing.T, w impl.WldWorld, want ...string) {
	t.Helper()
	if got := askBoard(t, w); !slices.Equal(got, want) {
		t.Errorf("the board is\n%q, not\n%q", got, want)
	}
}

// countBoard counts what a board tells, so that the boards are seen to come to all of it.
func countBoard(board []string, tally map[string]int) {
	walkers := map[string]bool{}
	for _, line := range board {
		words := strings.Split(line, " ")
		switch {
		case words[0] == "walker":
			tally[fmt.Sprintf("a walker of %d words", len(words))]++
			if walkers[words[1]] {
				tally["two walkers of one number"]++
			}
			walkers[words[1]] = true
		case words[0] == "done":
			tally["code "+words[4]]++
		case words[0] == "cell":
			for i, name := range map[int]string{3: "ground", 5: "air from the left", 6: "air from the right"} {
				if words[i] != "0" {
					tally[name]++
				}
			}
		}
	}
}

// The world of WldNew: all walkers are there, and nothing is on the ground, in the air, or noted.
func TestP64BoardsOfNewWorlds(t *testing.T) {
	for _, m := range okMaps() {
		for servers := 1; servers <= 3; servers++ {
			for _, list := range headLists(m) {
				want := headOf(m, servers, list)[2:]
				for cell := range m.Cells {
					want = append(want, fmt.Sprintf("cell %d ground 0 air 0 0", cell))
				}
				askBoardIs(t, impl.WldNew(m, list, servers), want...)
			}
		}
	}
}

// A world with all that there is on a board: who is there and who is on its way, ground, air from both sides, and notes.
func TestP64ABoardWithAll(t *testing.T) {
	m := impl.PlcMap{Cells: 3, Width: 2}
	first := turnedCell(bareCell(0), func(c *impl.CllCell) {
		c.Walkers = []impl.WlkWalker{{Id: 8, At: 0, Coins: 99, Seq: 900, Last: 9}}
		c.Ground = 900
		c.Outs[1] = []impl.PclParcel{{N: 4, Kind: 2, Coins: 7}, {N: 5, Kind: 1, Walker: impl.WlkWalker{Id: 3, At: 2, Coins: 1, Seq: 2, Last: 1}}}
		c.Next[1] = 6
	})
	middle := turnedCell(bareCell(1), func(c *impl.CllCell) {
		c.Walkers = []impl.WlkWalker{{Id: 1, At: 3}}
		c.Ground = 12
		c.Ins[0] = 4
	})
	last := turnedCell(bareCell(2), func(c *impl.CllCell) {
		c.Walkers = []impl.WlkWalker{{Id: 5, At: 4, Coins: 20, Seq: 30, Last: 4}}
		c.Outs[0] = []impl.PclParcel{{N: 0, Kind: 2, Coins: 9}, {N: 1, Kind: 2, Coins: 2}, {N: 2, Kind: 1, Walker: impl.WlkWalker{Id: 9, At: 3, Seq: 10, Last: 1}}}
		c.Next[0] = 3
	})
	w := worldOfCells(t, m, first, middle, last)
	w.Notes = []impl.WldNote{{Who: 5, Seq: 30, Code: 4}, {Who: 8, Seq: 900, Code: 9}, {Who: 5, Seq: 29, Code: 1}}
	askBoardIs(t, w,
		"walker 1 at 3 coins 0 order 0 code 0",
		"walker 3 at 2 coins 1 order 2 code 1 coming",
		"walker 5 at 4 coins 20 order 30 code 4",
		"walker 8 at 0 coins 99 order 900 code 9",
		"walker 9 at 3 coins 0 order 10 code 1 coming",
		"cell 0 ground 900 air 0 0",
		"cell 1 ground 12 air 7 11",
		"cell 2 ground 0 air 0 0",
		"done 5 30 code 4",
		"done 8 900 code 9",
		"done 5 29 code 1",
	)
	// What has come is told no more, though it is not let go of.
	w.Stores[1].Base.Ins = []int{5, 2}
	askBoardIs(t, w,
		"walker 1 at 3 coins 0 order 0 code 0",
		"walker 3 at 2 coins 1 order 2 code 1 coming",
		"walker 5 at 4 coins 20 order 30 code 4",
		"walker 8 at 0 coins 99 order 900 code 9",
		"walker 9 at 3 coins 0 order 10 code 1 coming",
		"cell 0 ground 900 air 0 0",
		"cell 1 ground 12 air 0 0",
		"cell 2 ground 0 air 0 0",
		"done 5 30 code 4",
		"done 8 900 code 9",
		"done 5 29 code 1",
	)
	w.Stores[1].Base.Ins = []int{6, 3}
	if board := askBoard(t, w); len(board) != 9 || strings.Contains(strings.Join(board, "\n"), "coming") {
		t.Errorf("the board is %q", board)
	}
}

// To both sides: coins in the air of the first cell from the right, and of the last one from the left.
func TestP64AirFromBothSides(t *testing.T) {
	middle := turnedCell(bareCell(1), func(c *impl.CllCell) {
		c.Outs[0], c.Next[0] = []impl.PclParcel{{N: 0, Kind: 2, Coins: 6}}, 1
		c.Outs[1], c.Next[1] = []impl.PclParcel{{N: 0, Kind: 2, Coins: 3}}, 1
	})
	askBoardIs(t, worldOfCells(t, impl.PlcMap{Cells: 3, Width: 2}, bareCell(0), middle, bareCell(2)),
		"cell 0 ground 0 air 0 6", "cell 1 ground 0 air 0 0", "cell 2 ground 0 air 3 0")
}

// As many coins in the air as there may be: five decimals.
func TestP64TheMostInTheAir(t *testing.T) {
	c := bareCell(1)
	for n := range 5000 {
		c.Outs[0] = append(c.Outs[0], impl.PclParcel{N: n, Kind: 2, Coins: 9})
	}
	c.Next[0] = 5000
	askBoardIs(t, worldOfCells(t, impl.PlcMap{Cells: 2, Width: 2}, bareCell(0), c), "cell 0 ground 0 air 0 45000", "cell 1 ground 0 air 0 0")
}

// Walkers of one number have a line each, in the order in which OneOf has them.
func TestP64WalkersOfOneNumber(t *testing.T) {
	m := impl.PlcMap{Cells: 2, Width: 2}
	first := turnedCell(bareCell(0), func(c *impl.CllCell) {
		c.Walkers = []impl.WlkWalker{{Id: 4, At: 1, Coins: 5}}
		c.Outs[1], c.Next[1] = []impl.PclParcel{{N: 0, Kind: 1, Walker: impl.WlkWalker{Id: 4, At: 2, Coins: 7}}}, 1
	})
	last := turnedCell(bareCell(1), func(c *impl.CllCell) { c.Walkers = []impl.WlkWalker{{Id: 4, At: 3, Coins: 6}} })
	askBoardIs(t, worldOfCells(t, m, first, last),
		"walker 4 at 1 coins 5 order 0 code 0", "walker 4 at 3 coins 6 order 0 code 0", "walker 4 at 2 coins 7 order 0 code 0 coming",
		"cell 0 ground 0 air 0 0", "cell 1 ground 0 air 0 0")
}

// Notes of each walker with each code, in their order, twice the same one, and as many as there may be.
func TestP64BoardsWithNotes(t *testing.T) {
	var notes []impl.WldNote
	var want []string
	for who := 9; who >= 1; who-- {
		for code := 9; code >= 1; code-- {
			n := impl.WldNote{Who: who, Seq: 100*who - code%3, Code: code}
			notes = append(notes, n)
			want = append(want, fmt.Sprintf("done %d %d code %d", n.Who, n.Seq, n.Code))
		}
	}
	notes, want = append(notes, notes[0], notes[80]), append(want, want[0], want[80])
	w := turnedWorld(impl.WldNew(impl.PlcMap{Cells: 2, Width: 2}, nil, 1), func(w *impl.WldWorld) { w.Notes = notes })
	askBoardIs(t, w, append([]string{"cell 0 ground 0 air 0 0", "cell 1 ground 0 air 0 0"}, want...)...)
	for _, count := range []int{0, 1, 149, 150} {
		if board := askBoard(t, turnedWorld(w, notesOf(count))); len(board) != count+2 {
			t.Errorf("with %d notes the board has %d lines", count, len(board))
		}
	}
}

// Boards of worlds behind long runs, in which parcels pile up and then all comes, and behind their calm.
func TestP64BoardsBehindRuns(t *testing.T) {
	tally := map[string]int{}
	r := rand.New(rand.NewSource(481))
	for _, m := range calmMaps {
		for servers := 1; servers <= 3; servers++ {
			for side := range 2 {
				w := impl.WldNew(m, nineWalkers(m.Cells*m.Width), servers)
				for i := range 400 {
					if i%80 < 50 {
						w = impl.WldStep(w, pilingEvent(r, w, side))
					} else {
						w = impl.WldStep(w, someEvent(r, w, 15))
					}
					if i%10 == 0 {
						countBoard(askBoard(t, w), tally)
					}
				}
				countBoard(askBoard(t, impl.WldCalm(w, 20)), tally)
			}
		}
	}
	askTally(t, tally, 20, "a walker of 10 words", "a walker of 11 words", "ground", "air from the left", "air from the right", "code 1", "code 7")
}

// Boards of worlds of all beginnings, and of worlds to which WldNew need not lead.
func TestP64BoardsOfManyWorlds(t *testing.T) {
	tally := map[string]int{}
	eachRun(t, 482, []int{0, 1, 40, 200, 400}, func(_ impl.WldWorld, _ []impl.WldEvent, w impl.WldWorld) {
		countBoard(askBoard(t, w), tally)
		countBoard(askBoard(t, impl.WldCalm(w, 20)), tally)
	})
	askTally(t, tally, 20, "a walker of 10 words", "ground", "code 1", "code 2", "code 3", "code 4", "code 6", "code 7")
	r := rand.New(rand.NewSource(483))
	for _, m := range []impl.PlcMap{{Cells: 2, Width: 2}, {Cells: 3, Width: 3}, {Cells: 4, Width: 8}} {
		for range 100 {
			countBoard(askBoard(t, meetingWorld(r, m, 12)), tally)
		}
	}
	eachWorld(t, 484, 30, 6, func(_ *rand.Rand, w impl.WldWorld) { countBoard(askBoard(t, w), tally) })
	for _, w := range calmCases() {
		countBoard(askBoard(t, w), tally)
	}
	askTally(t, tally, 30, "two walkers of one number", "a walker of 10 words", "a walker of 11 words", "air from the left", "air from the right")
}

// What stands in the stores and notes counts alone: not holds, messages, table or book.
func TestP64OnlyStoresAndNotesAreTold(t *testing.T) {
	for why, w := range calmCases() {
		bare := newWorldPlainly(w.Map, nil, 1)
		for cell, s := range w.Stores {
			bare.Stores[cell].Base, bare.Stores[cell].Recs = s.Base, s.Recs
		}
		bare.Notes = w.Notes
		if got, want := impl.DskBoard(w), impl.DskBoard(bare); !slices.Equal(got, want) {
			t.Errorf("%s: the board is\n%q, not\n%q", why, got, want)
		}
	}
}

// Of a world that is not ok there is no board, not even of the notes that it has. (All others that are not ok are asked for beside the other calls of a world.)
func TestP64NoBoardOfWorldsThatAreNotOk(t *testing.T) {
	for why, turn := range notQuiteResting() {
		w := turnedWorld(restingWorld(), notesOf(3), turn)
		if worldOkPlainly(w) {
			t.Fatalf("%s: the test's own %+v is ok", why, w)
		}
		if got := impl.DskBoard(w); len(got) != 0 {
			t.Errorf("%s: the board is %q", why, got)
		}
	}
	for _, w := range notOkCases() {
		if got := impl.DskBoard(w); len(got) != 0 {
			t.Errorf("the board of %+v is %q", w, got)
		}
	}
}
