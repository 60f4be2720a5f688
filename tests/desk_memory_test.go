package tests

import (
	"math/rand"
	"runtime"
	"slices"
	"strconv"
	"testing"
	"time"

	"loop.example/landmarch/impl"
)

// spareLine is what lies in spare room and in memory that is written over: no two alike, and none of them a line of anything.
func spareLine(i int) string {
	return "spare " + strconv.Itoa(i)
}

// deskCases is heads and lines of which each kind of answer comes.
func deskCases() map[string][2][]string {
	return map[string][2][]string{
		"the document's example": {exampleHead(), exampleLines()},
		"no line":                {exampleHead(), nil},
		"no walkers":             {exampleHead()[:2], exampleLines()},
		"nothing at all":         {nil, nil},
		"a short head":           {exampleHead()[:1], exampleLines()},
		"a wrong head":           {exampleLines(), exampleHead()},
		"lines that are none":    {exampleHead(), noneLines()},
		"lines of both kinds":    {rightHead(), append(exampleLines(), noneLines()...)},
		"as many as may be":      {rightHead(), slices.Repeat([]string{"fall 0"}, 400)},
		"too many":               {rightHead(), slices.Repeat([]string{"fall 0"}, 401)},
		"a long head":            {slices.Repeat(exampleHead(), 101), exampleLines()},
	}
}

// No call writes into its lines or behind their end, spare room included; and no answer shares memory with them, or with another answer.
func TestDesksMemoryOfRuns(t *testing.T) {
	for why, c := range deskCases() {
		askMemory(t, "DskRun's lines: "+why, c[1], spareLine, func(lines []string) []string { return impl.DskRun(c[0], lines) })
		askMemory(t, "DskRun's head: "+why, c[0], spareLine, func(head []string) []string { return impl.DskRun(head, c[1]) })
		short, _ := withRoom(c[1], spareLine)
		head, _ := withRoom(c[0], spareLine)
		if got, want := impl.DskRun(head, short), impl.DskRun(c[0], c[1]); !slices.Equal(got, want) {
			t.Errorf("%s: the answer hangs on spare room: %q, not %q", why, got, want)
		}
	}
	// One piece of memory as head and as lines.
	piece := append(exampleHead(), exampleLines()...)
	kept := slices.Clone(piece)
	if got := impl.DskRun(piece[:4], piece[4:]); !slices.Equal(got, exampleBoard()) || !slices.Equal(piece, kept) {
		t.Errorf("of one piece of memory there is %q", got)
	}
}

func TestDesksMemoryOfHeads(t *testing.T) {
	for why, c := range deskCases() {
		for _, lines := range c {
			short, room := withRoom(lines, spareLine)
			before := slices.Clone(room)
			m, servers, list, wrong := impl.DskHead(short)
			_, _, again, _ := impl.DskHead(short)
			kept := slices.Clone(list)
			if !slices.Equal(room, before) {
				t.Fatalf("%s: DskHead wrote into its lines or behind their end", why)
			}
			wantMap, wantServers, wantList, wantWrong := headPlainly(lines)
			if m != wantMap || servers != wantServers || !slices.Equal(list, wantList) || wrong != wantWrong {
				t.Fatalf("%s: DskHead hangs on spare room", why)
			}
			fill(room, 5, spareLine)
			fill(whole(again), 5, spareWalker)
			if !slices.Equal(list, kept) {
				t.Fatalf("%s: the walkers turned with the lines, or with those of another answer: %v, were %v", why, list, kept)
			}
		}
	}
}

// DskBoard does not write into its world, spare room included, and no two of its answers share memory.
func TestDesksMemoryOfBoards(t *testing.T) {
	ask := func(w impl.WldWorld) {
		t.Helper()
		given := worldWithRoom(w)
		memory := worldMemoryOf(given)
		before := memory.copied()
		got, again := impl.DskBoard(given), impl.DskBoard(given)
		if !memory.same(before) || !sameWorld(given, w) {
			t.Fatalf("DskBoard of %+v wrote into it or behind an end", w)
		}
		if want := impl.DskBoard(w); !slices.Equal(got, want) || !slices.Equal(again, want) {
			t.Fatalf("DskBoard of %+v hangs on spare room", w)
		}
		kept := slices.Clone(got)
		memory.writeOverAll(1000000)
		fill(whole(again), 5, spareLine)
		if !slices.Equal(got, kept) {
			t.Fatalf("DskBoard of %+v: the answer turned with the world, or with another answer", w)
		}
	}
	for _, w := range calmCases() {
		ask(w)
	}
	for _, w := range notOkCases() {
		ask(w)
	}
	eachWorld(t, 501, 10, 5, func(_ *rand.Rand, w impl.WldWorld) { ask(w) })
}

// No call keeps anything: what was asked in between does not turn an answer.
func TestDesksKeepNothing(t *testing.T) {
	for range 3 {
		for _, c := range deskCases() {
			impl.DskRun(c[0], c[1])
			impl.DskHead(c[0])
			for _, line := range c[1] {
				impl.DskEvent(line)
			}
			askTold(t, exampleHead(), exampleLines(), exampleBoard()...)
		}
	}
}

// What is asked at the same time is what is asked alone, and no goroutine is left behind.
func TestDesksAtTheSameTime(t *testing.T) {
	before := runtime.NumGoroutine()
	head, _ := withRoom(exampleHead(), spareLine)
	lines, _ := withRoom(exampleLines(), spareLine)
	answers := make(chan bool)
	for range 8 {
		go func() {
			same := true
			for range 20 {
				same = same && slices.Equal(impl.DskRun(head, lines), exampleBoard())
			}
			answers <- same
		}()
	}
	for range 8 {
		if !<-answers {
			t.Errorf("at the same time an answer is another one")
		}
	}
	// One that has said its last word may still be on its way out.
	for range 200 {
		if runtime.NumGoroutine() <= before {
			return
		}
		time.Sleep(10 * time.Millisecond)
	}
	t.Errorf("there were %d goroutines, and there are %d", before, runtime.NumGoroutine())
}
