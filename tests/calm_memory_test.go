package tests

import (
	"math/rand"
	"runtime"
	"slices"
	"testing"
	"time"

	"loop.example/landmarch/impl"
)

// spareEvent is what lies in spare room and in memory that is written over: no two alike, and of no Kind.
func spareEvent(i int) impl.WldEvent {
	return impl.WldEvent{Kind: 70 + i, At: -91, What: -92, To: -93, N: -94}
}

// askRunMemory asks what askWorldMemory does, of WldRun, and that its events are neither written into nor kept.
func askRunMemory(t *testing.T, w impl.WldWorld, events []impl.WldEvent) {
	t.Helper()
	askWorldMemory(t, "WldRun", w, func(w impl.WldWorld) impl.WldWorld { return impl.WldRun(w, events) })
	short, room := withRoom(events, spareEvent)
	before := slices.Clone(room)
	got := impl.WldRun(w, short)
	kept := cloneWorld(got)
	if !slices.Equal(room, before) {
		t.Fatalf("WldRun of %+v wrote into its events or behind their end", events)
	}
	fill(room, 9, spareEvent)
	if !sameWorld(got, kept) || !sameWorld(got, impl.WldRun(w, events)) {
		t.Fatalf("WldRun of %+v: the answer turned with its events, or hangs on spare room", events)
	}
}

// askCalmMemory asks what askWorldMemory does, of WldCalm.
func askCalmMemory(t *testing.T, w impl.WldWorld, numbers ...int) {
	t.Helper()
	for _, rounds := range numbers {
		askWorldMemory(t, "WldCalm", w, func(w impl.WldWorld) impl.WldWorld { return impl.WldCalm(w, rounds) })
	}
}

// notOkCases is worlds of which each call answers nothing.
func notOkCases() []impl.WldWorld {
	return []impl.WldWorld{worldWith(netOf(41)), worldWith(notesOf(151)), {}, turnedWorld(restingWorld(), func(w *impl.WldWorld) { w.Map.Width = 9 })}
}

func TestCalmsMemory(t *testing.T) {
	for _, w := range calmCases() {
		askCalmMemory(t, w, -1, 0, 1, 2, 20, 61)
		askRunMemory(t, w, someEvents())
		askRunMemory(t, w, nil)
		askRunMemory(t, w, make([]impl.WldEvent, 401))
	}
	for _, w := range notOkCases() {
		askCalmMemory(t, w, -1, 0, 1, 20, 61)
		askRunMemory(t, w, someEvents())
	}
	eachWorld(t, 381, 8, 5, func(r *rand.Rand, w impl.WldWorld) {
		askCalmMemory(t, w, 0, 1, 3)
		events := eventsAround(r, w)
		r.Shuffle(len(events), func(i, j int) { events[i], events[j] = events[j], events[i] })
		askRunMemory(t, w, events[:min(30, len(events))])
	})
}

// The calls that answer no world leave theirs as it is.
func TestCalmsMemoryOfWhatIsAsked(t *testing.T) {
	ask := func(w impl.WldWorld) {
		t.Helper()
		given := worldWithRoom(w)
		memory := worldMemoryOf(given)
		before := memory.copied()
		for cell := -1; cell <= 4; cell++ {
			if impl.WldHeld(given, cell) != impl.WldHeld(w, cell) {
				t.Fatalf("WldHeld(%+v, %d) hangs on spare room", w, cell)
			}
		}
		if impl.WldRest(given) != impl.WldRest(w) {
			t.Fatalf("WldRest(%+v) hangs on spare room", w)
		}
		if !memory.same(before) || !sameWorld(given, w) {
			t.Fatalf("WldHeld or WldRest of %+v wrote into it or behind an end", w)
		}
	}
	for _, w := range calmCases() {
		ask(w)
	}
	for _, w := range notOkCases() {
		ask(w)
	}
	eachWorld(t, 382, 8, 5, func(_ *rand.Rand, w impl.WldWorld) { ask(w) })
}

// No goroutine is left behind a calm or a run.
func TestCalmsLeaveNoGoroutine(t *testing.T) {
	before := runtime.NumGoroutine()
	for range 5 {
		for _, w := range calmCases() {
			impl.WldCalm(w, 3)
			impl.WldRun(w, someEvents())
		}
	}
	// One that has said its last word may still be on its way out.
	for range 200 {
		if runtime.NumGoroutine() <= before {
			return
		}
		time.Sleep(10 * time.Millisecond)
	}
	t.Errorf("there were %d goroutines, and there are %d", before, runtime.NumGoroutine())
}

// Calms and runs of one world at the same time are as they are alone, and none of them writes what another one reads.
func TestCalmsAtTheSameTime(t *testing.T) {
	for _, w := range []impl.WldWorld{worldWithRoom(standingWorld()), worldWithRoom(worldWith(netOf(40), serverDown(0)))} {
		events := someEvents()
		calm, run := impl.WldCalm(w, 3), impl.WldRun(w, events)
		answers := make(chan bool)
		for range 8 {
			go func() {
				same := true
				for range 10 {
					same = same && sameWorld(impl.WldCalm(w, 3), calm) && sameWorld(impl.WldRun(w, events), run) && !impl.WldRest(w)
				}
				answers <- same
			}()
		}
		for range 8 {
			if !<-answers {
				t.Errorf("at the same time an answer is another one")
			}
		}
	}
}
