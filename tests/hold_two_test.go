package tests

import (
	"math/rand"
	"testing"

	"loop.example/landmarch/impl"
)

// askShutOut asks that a hold writes nothing into a store of another age, whatever the record.
func askShutOut(t *testing.T, r *rand.Rand, m impl.PlcMap, h impl.HldHolder, s impl.StoStore) {
	t.Helper()
	recs := append(recordsFor(r, m, h.State), impl.LogRec{})
	for i := range 12 {
		record := recs[r.Intn(len(recs))]
		if i%2 == 0 {
			record = someRecord(r, m, h.State)
		}
		hold, after, written, came := impl.HldWrite(m, h, s, record)
		if written != impl.StoFenced || came != 0 || !sameHold(hold, h) || !sameStore(after, s) {
			t.Fatalf("HldWrite(%v, %+v, %+v, %+v) is %+v, %+v, %d, %d", m, h, s, record, hold, after, written, came)
		}
	}
}

// askWritesWhatFits asks that a hold that was opened last writes just what fits in the cell; the hold and the store behind some records, and how many were written.
func askWritesWhatFits(t *testing.T, r *rand.Rand, m impl.PlcMap, h impl.HldHolder, s impl.StoStore, count int) (impl.HldHolder, impl.StoStore, int) {
	t.Helper()
	sum := 0
	for range count {
		record := someRecord(r, m, h.State)
		_, _, fits := applyPlainly(m, h.State, record)
		fits = fits && len(s.Recs) < 250
		written, _ := askWrite(t, m, h, s, record)
		if fits != (written == impl.StoDone) {
			t.Fatalf("HldWrite(%v, %+v, %+v, %+v) is %d", m, h, s, record, written)
		}
		if fits {
			sum++
		}
		h, s, _, _ = impl.HldWrite(m, h, s, record)
		if h.Count != len(s.Recs) || !sameCell(h.State, impl.StoState(m, s)) {
			t.Fatalf("the hold is %+v, the store %+v", h, s)
		}
	}
	return h, s, sum
}

// Two holds on one store, the later one opened behind what the earlier one wrote.
func TestP34TheEarlierHoldWritesNothing(t *testing.T) {
	sum := 0
	eachStore(211, 12, 20, func(r *rand.Rand, m impl.PlcMap, s impl.StoStore) {
		s.Age = min(s.Age, 890)
		earlier, s, ok := impl.HldOpen(m, s, s.Age+1)
		if !ok {
			t.Fatalf("HldOpen(%v, %+v) is false", m, s)
		}
		earlier, s, first := askWritesWhatFits(t, r, m, earlier, s, 6)
		for _, age := range []int{s.Age + 1, s.Age + 2, 900} {
			later, after, ok := askOpen(t, m, s, age)
			if !ok || later.Count != earlier.Count || !sameCell(later.State, earlier.State) {
				t.Fatalf("HldOpen(%v, %+v, %d) is %+v, %v", m, s, age, later, ok)
			}
			askShutOut(t, r, m, earlier, after)
			_, after, second := askWritesWhatFits(t, r, m, later, after, 6)
			askShutOut(t, r, m, earlier, after)
			sum += first + second
		}
	})
	if sum < 500 {
		t.Errorf("%d records were written", sum)
	}
}

// Of one age the hold that has read fewer records writes nothing either, until it is opened anew.
func TestP33P35TwoHoldsOfOneAge(t *testing.T) {
	m, c, recs := fullBase(4)
	first, s, _ := impl.HldOpen(m, impl.StoStore{Base: c}, 3)
	second, s, _ := impl.HldOpen(m, s, 3)
	if !sameHold(first, second) {
		t.Fatalf("the holds are %+v and %+v", first, second)
	}
	first, s, written, came := impl.HldWrite(m, first, s, recs[0])
	if written != impl.StoDone || came != impl.CodeDone {
		t.Fatalf("the first one writes %d, %d", written, came)
	}
	for _, record := range []impl.LogRec{recs[0], recs[1], {}} {
		if written, _ := askWrite(t, m, second, s, record); written != impl.StoElse {
			t.Errorf("the second one writes %+v: %d", record, written)
		}
	}
	second, s, _ = impl.HldOpen(m, s, 3)
	second, s, written, _ = impl.HldWrite(m, second, s, recs[1])
	if written != impl.StoDone || second.Count != 2 {
		t.Errorf("opened anew it writes %d", written)
	}
	if written, _ := askWrite(t, m, first, s, recs[1]); written != impl.StoElse {
		t.Errorf("then the first one writes %d", written)
	}
}

// A log from its beginning up to its last record, from hold to hold; each one before is shut out.
func TestP32P34ALogFromHoldToHold(t *testing.T) {
	r := rand.New(rand.NewSource(212))
	m, c, recs := fullBase(251)
	s := impl.StoStore{Base: c}
	var before []impl.HldHolder
	for i, record := range recs {
		if i%25 == 0 {
			hold, after, ok := askOpen(t, m, s, len(before)*3+1)
			if !ok || hold.Count != i {
				t.Fatalf("behind %d records the hold is %+v, %v", i, hold, ok)
			}
			before, s = append(before, hold), after
		}
		last := len(before) - 1
		for _, h := range before[:last] {
			if hold, after, written, came := impl.HldWrite(m, h, s, record); written != impl.StoFenced || came != 0 || !sameHold(hold, h) || !sameStore(after, s) {
				t.Fatalf("the hold of the age %d writes %d into a store of the age %d", h.Age, written, s.Age)
			}
		}
		written, came := askWrite(t, m, before[last], s, record)
		want, wantCame := impl.StoDone, impl.CodeDone
		if i == 250 {
			want, wantCame = impl.StoElse, 0
		}
		if written != want || came != wantCame {
			t.Fatalf("the record %d: %d, %d", i, written, came)
		}
		before[last], s, _, _ = impl.HldWrite(m, before[last], s, record)
	}
	if len(s.Recs) != 250 || s.Age != 31 || before[len(before)-1].Count != 250 {
		t.Errorf("%d records in the age %d", len(s.Recs), s.Age)
	}
	askShutOut(t, r, m, before[0], s)
}

// A hold of a later age than the store, which nobody has opened in it, writes nothing.
func TestP33AHoldOfALaterAge(t *testing.T) {
	r := rand.New(rand.NewSource(213))
	m, c, recs := fullBase(3)
	s := impl.StoStore{Age: 4, Base: c, Recs: recs}
	hold, _, _ := impl.HldOpen(m, s, 6)
	for _, age := range []int{0, 1, 4, 5} {
		s.Age = age
		askShutOut(t, r, m, hold, s)
	}
	s.Age = 6
	if written, _ := askWrite(t, m, hold, s, restOf(4, 9)); written != impl.StoDone {
		t.Errorf("in its own age it writes %d", written)
	}
}
