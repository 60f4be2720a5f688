package tests

import (
	"strconv"
	"testing"

	"loop.example/landmarch/impl"
)

// wrongHolds is, by what is wrong, holds that are not ok on the map of fullBase, for each clause of the chapter by itself.
func wrongHolds() map[string]impl.HldHolder {
	m, c, _ := fullBase(0)
	wrong := map[string]impl.HldHolder{
		"nothing":       {},
		"a cell alone":  {State: c},
		"without state": {Age: 1, Count: 1},
	}
	for _, age := range append([]int{-1, 0, 901}, farNumbers...) {
		wrong["Age "+strconv.Itoa(age)] = impl.HldHolder{Age: age, State: c}
	}
	for _, count := range append([]int{-1, 251}, farNumbers...) {
		wrong["Count "+strconv.Itoa(count)] = impl.HldHolder{Age: 1, Count: count, State: c}
	}
	for why, state := range wrongCells(m, c) {
		wrong["the state: "+why] = impl.HldHolder{Age: 1, State: state}
	}
	return wrong
}

// askNoWrite asks that a hold and a store of which one is not ok answer nothing.
func askNoWrite(t *testing.T, why string, m impl.PlcMap, h impl.HldHolder, s impl.StoStore, r impl.LogRec) {
	t.Helper()
	hold, after, written, came := impl.HldWrite(m, h, s, r)
	if !isNoHold(hold) || !isNoStore(after) || written != 0 || came != 0 {
		t.Errorf("%s: HldWrite(%v, %+v, %+v, %+v) is %+v, %+v, %d, %d", why, m, h, s, r, hold, after, written, came)
	}
}

func TestP33HoldsThatAreOk(t *testing.T) {
	m, c, _ := fullBase(0)
	for _, age := range numbersAround(1, 900) {
		for _, count := range []int{0, 250} {
			h := impl.HldHolder{Age: age, Count: count, State: c}
			if got, want := impl.HldOk(m, h), age >= 1 && age <= 900; got != want {
				t.Errorf("HldOk(%v, %+v) is %v", m, h, got)
			}
		}
	}
	for _, count := range numbersAround(0, 250) {
		for _, age := range []int{1, 900} {
			h := impl.HldHolder{Age: age, Count: count, State: c}
			if got, want := impl.HldOk(m, h), count >= 0 && count <= 250; got != want {
				t.Errorf("HldOk(%v, %+v) is %v", m, h, got)
			}
		}
	}
	eachOkCell(t, 221, 20, func(m impl.PlcMap, c impl.CllCell) {
		if h := (impl.HldHolder{Age: 1, State: c}); !impl.HldOk(m, h) {
			t.Fatalf("HldOk(%v, %+v) is false", m, h)
		}
	})
}

func TestP33HoldsThatAreNotOk(t *testing.T) {
	m, c, recs := fullBase(1)
	for why, h := range wrongHolds() {
		if impl.HldOk(m, h) {
			t.Errorf("%s: HldOk(%v, %+v) is true", why, m, h)
		}
		// One store of the hold's own age, where it may be of one, and one that shuts it out.
		for _, age := range []int{h.Age, 1, 2} {
			s := impl.StoStore{Age: max(0, min(age, 900)), Base: c}
			askNoWrite(t, why, m, h, s, recs[0])
			askNoWrite(t, why, m, h, s, impl.LogRec{})
		}
		askNoWrite(t, why, m, h, impl.StoStore{}, recs[0])
	}
}

// A hold that has read more records than there may be is none, though the store is full.
func TestP33AHoldPastTheLastRecord(t *testing.T) {
	m, c, recs := fullBase(251)
	full := impl.StoStore{Age: 1, Base: c, Recs: recs[:250]}
	state := impl.StoState(m, full)
	askNoWrite(t, "251 of 250", m, impl.HldHolder{Age: 1, Count: 251, State: state}, full, recs[250])
	if written, _ := askWrite(t, m, impl.HldHolder{Age: 1, Count: 250, State: state}, full, recs[250]); written != impl.StoElse {
		t.Errorf("250 of 250: %d", written)
	}
}

func TestP32P33StoresThatAreNotOk(t *testing.T) {
	m, c, _ := fullBase(0)
	for why, s := range wrongStores() {
		for _, age := range []int{-1, 0, 1, s.Age, 2, 900, 901} {
			if hold, after, ok := impl.HldOpen(m, s, age); ok || !isNoHold(hold) || !isNoStore(after) {
				t.Fatalf("%s: HldOpen(%v, %+v, %d) is %+v, %+v, %v", why, m, s, age, hold, after, ok)
			}
		}
		for _, count := range []int{0, min(len(s.Recs), 250)} {
			askNoWrite(t, why, m, impl.HldHolder{Age: 1, Count: count, State: c}, s, restOf(4, 900))
			askNoWrite(t, why, m, impl.HldHolder{Age: 2, Count: count, State: c}, s, impl.LogRec{})
		}
		askNoWrite(t, why, m, impl.HldHolder{}, s, restOf(4, 900))
	}
}

func TestP32P33MapsThatAreNotOk(t *testing.T) {
	_, c, recs := fullBase(2)
	s := impl.StoStore{Age: 1, Base: c, Recs: recs[:1]}
	for _, bad := range badMaps() {
		h := impl.HldHolder{Age: 1, Count: 1, State: c}
		if impl.HldOk(bad, h) {
			t.Errorf("HldOk(%v, %+v) is true", bad, h)
		}
		for age := range 4 {
			if hold, after, ok := impl.HldOpen(bad, s, age); ok || !isNoHold(hold) || !isNoStore(after) {
				t.Errorf("HldOpen(%v, %+v, %d) is %+v, %+v, %v", bad, s, age, hold, after, ok)
			}
		}
		askNoWrite(t, "the map", bad, h, s, recs[1])
	}
}
