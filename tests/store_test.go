package tests

import (
	"math/rand"
	"slices"
	"testing"

	"loop.example/landmarch/impl"
)

// agesAround is ages at their ends, one past them, around one, and far numbers.
func agesAround(age int) []int {
	return append([]int{-1, 0, 1, age - 1, age, age + 1, 899, 900, 901}, farNumbers...)
}

// placesAround is places around the end of a log, and far numbers.
func placesAround(count int) []int {
	return append([]int{-1, 0, count - 1, count, count + 1, 249, 250, 251}, farNumbers...)
}

// askAppend asks that a record is written as the words say, and what the promises say of it.
func askAppend(t *testing.T, m impl.PlcMap, s impl.StoStore, age, at int, r impl.LogRec) int {
	t.Helper()
	got, code := impl.StoAppend(m, s, age, at, r)
	want, wantCode := appendPlainly(m, s, age, at, r)
	if code != wantCode || !sameStore(got, want) {
		t.Fatalf("StoAppend(%v, %+v, %d, %d, %+v) is\n%+v, %d, not\n%+v, %d", m, s, age, at, r, got, code, want, wantCode)
	}
	state := impl.StoState(m, s)
	after, _, fits := impl.LogApply(m, state, r)
	writes := age == s.Age && at == len(s.Recs) && len(s.Recs) < impl.LogMax && fits
	if writes != (code == impl.StoDone) {
		t.Fatalf("StoAppend(%v, %+v, %d, %d, %+v) is %d", m, s, age, at, r, code)
	}
	if !writes {
		after = state
	}
	if !impl.StoOk(m, got) || !sameCell(impl.StoState(m, got), after) {
		t.Fatalf("behind StoAppend(%v, %+v, %d, %d, %+v) StoState is %+v, not %+v", m, s, age, at, r, impl.StoState(m, got), after)
	}
	return code
}

func TestP45StatesOfStores(t *testing.T) {
	eachStore(131, 40, 40, func(r *rand.Rand, m impl.PlcMap, s impl.StoStore) {
		if !impl.StoOk(m, s) {
			t.Fatalf("StoOk(%v, %+v) is false", m, s)
		}
		want, _ := foldPlainly(m, s.Base, s.Recs)
		folded, count := impl.LogFold(m, s.Base, s.Recs)
		if got := impl.StoState(m, s); !sameCell(got, want) || !sameCell(got, folded) || count != len(s.Recs) {
			t.Fatalf("StoState(%v, %+v) is %+v, not %+v", m, s, got, want)
		}
	})
}

func TestP43P45RecordsAreWritten(t *testing.T) {
	codes := map[int]int{}
	eachStore(132, 8, 30, func(r *rand.Rand, m impl.PlcMap, s impl.StoStore) {
		state := impl.StoState(m, s)
		recs := recordsFor(r, m, state)
		for range 12 {
			recs = append(recs, someRecord(r, m, state))
		}
		for i, record := range recs {
			codes[askAppend(t, m, s, s.Age, len(s.Recs), record)]++
			if i%9 == 0 {
				ages, places := agesAround(s.Age), placesAround(len(s.Recs))
				codes[askAppend(t, m, s, ages[r.Intn(len(ages))], places[r.Intn(len(places))], record)]++
			}
		}
	})
	for code := impl.StoDone; code <= impl.StoNot; code++ {
		if codes[code] < 100 {
			t.Errorf("codes: %v", codes)
		}
	}
}

// A log grows from a new store on, record by record, over all walkers of its cell.
func TestP43P45AStoreFromTheBeginning(t *testing.T) {
	r := rand.New(rand.NewSource(133))
	m := impl.PlcMap{Cells: 3, Width: 3}
	written := 0
	for cell := range m.Cells {
		for _, list := range okWalkers(m, 134)[480:] {
			for i := range list {
				list[i].Seq = 0
			}
			s := impl.StoNew(m, cell, list)
			for range 60 {
				record := someRecord(r, m, impl.StoState(m, s))
				askAppend(t, m, s, 0, len(s.Recs), record)
				s, _ = impl.StoAppend(m, s, 0, len(s.Recs), record)
			}
			written += len(s.Recs)
		}
	}
	if written < 1000 {
		t.Errorf("%d records were written", written)
	}
}

// Which code it is where several would hold.
func TestP43TheOrderOfTheCodes(t *testing.T) {
	m, c, recs := fullBase(251)
	s := impl.StoStore{Age: 7, Base: c, Recs: recs[:3]}
	full := impl.StoStore{Age: 7, Base: c, Recs: recs[:250]}
	fits, old, wrong := recs[3], recs[2], impl.LogRec{}
	for _, row := range []struct {
		why     string
		s       impl.StoStore
		age, at int
		r       impl.LogRec
		want    int
	}{
		{"all fits", s, 7, 3, fits, impl.StoDone},
		{"an earlier age", s, 6, 3, fits, impl.StoFenced},
		{"a later age", s, 8, 3, fits, impl.StoFenced},
		{"an age below 0", s, -1, 3, fits, impl.StoFenced},
		{"an age past all", s, 901, 3, fits, impl.StoFenced},
		{"another age and place", s, 6, 2, fits, impl.StoFenced},
		{"another age, it does not fit", s, 6, 3, old, impl.StoFenced},
		{"another age, a record that is not ok", s, 6, 3, wrong, impl.StoFenced},
		{"another age and place, it does not fit", s, 8, 4, old, impl.StoFenced},
		{"another age, the log is full", full, 6, 250, recs[250], impl.StoFenced},
		{"a place ahead of the end", s, 7, 2, fits, impl.StoElse},
		{"a place past the end", s, 7, 4, fits, impl.StoElse},
		{"a place below 0", s, 7, -1, fits, impl.StoElse},
		{"another place, it does not fit", s, 7, 2, old, impl.StoElse},
		{"another place, a record that is not ok", s, 7, 4, wrong, impl.StoElse},
		{"the log is full", full, 7, 250, recs[250], impl.StoElse},
		{"the log is full, another place", full, 7, 249, recs[250], impl.StoElse},
		{"the log is full, past its end", full, 7, 251, recs[250], impl.StoElse},
		{"the log is full, it does not fit", full, 7, 250, old, impl.StoElse},
		{"it does not fit", s, 7, 3, old, impl.StoNot},
		{"a record that is not ok", s, 7, 3, wrong, impl.StoNot},
		{"a side with no cell", impl.StoStore{Base: bareCell(0)}, 0, 0, cameFrom(0, impl.PclParcel{Kind: 2, Coins: 1}), impl.StoNot},
		{"the first record", impl.StoStore{Base: bareCell(0)}, 0, 0, cameFrom(1, impl.PclParcel{Kind: 2, Coins: 1}), impl.StoDone},
		{"the last record", impl.StoStore{Age: 900, Base: c, Recs: recs[:249]}, 900, 249, recs[249], impl.StoDone},
	} {
		if code := askAppend(t, m, row.s, row.age, row.at, row.r); code != row.want {
			t.Errorf("%s: %d, not %d", row.why, code, row.want)
		}
	}
}

func TestP43RecordsThatAreNotOkAreNotWritten(t *testing.T) {
	m, c, recs := fullBase(2)
	s := impl.StoStore{Age: 1, Base: twoParcels(m, c, 1), Recs: recs[:1]}
	for why, record := range wrongRecords(m) {
		if code := askAppend(t, m, s, 1, 1, record); code != impl.StoNot {
			t.Errorf("%s: %d", why, code)
		}
	}
}

func TestP44TheFenceNeverGoesBack(t *testing.T) {
	eachStore(141, 12, 20, func(r *rand.Rand, m impl.PlcMap, s impl.StoStore) {
		for _, age := range agesAround(s.Age) {
			got, ok := impl.StoFence(m, s, age)
			want := cloneStore(s)
			switch {
			case age < 0 || age > 900:
				want = impl.StoStore{}
			case age >= s.Age:
				want.Age = age
			}
			if ok != (age >= s.Age && age <= 900) || !sameStore(got, want) {
				t.Fatalf("StoFence(%v, %+v, %d) is %+v, %v", m, s, age, got, ok)
			}
			if !ok {
				continue
			}
			if !impl.StoOk(m, got) || !sameCell(impl.StoState(m, got), impl.StoState(m, s)) {
				t.Fatalf("behind StoFence(%v, %+v, %d) the store is %+v", m, s, age, got)
			}
			askFenced(t, r, m, got)
		}
	})
}

// askFenced asks that nobody of another age writes into a store, whatever and wherever, and that who is of its age does.
func askFenced(t *testing.T, r *rand.Rand, m impl.PlcMap, s impl.StoStore) {
	t.Helper()
	state := impl.StoState(m, s)
	recs := append(recordsFor(r, m, state), impl.LogRec{})
	for range 6 {
		record := recs[r.Intn(len(recs))]
		for _, age := range []int{-1, 0, s.Age - 1, s.Age + 1, 901} {
			if age == s.Age {
				continue
			}
			for _, at := range []int{len(s.Recs), -1} {
				if got, code := impl.StoAppend(m, s, age, at, record); code != impl.StoFenced || !sameStore(got, s) {
					t.Fatalf("StoAppend(%v, %+v, %d, %d, %+v) is %+v, %d", m, s, age, at, record, got, code)
				}
			}
		}
		if _, code := impl.StoAppend(m, s, s.Age, len(s.Recs), record); code == impl.StoFenced {
			t.Fatalf("StoAppend(%v, %+v) of its own age is %d", m, s, code)
		}
	}
}

// wrongStores is, by what is wrong, stores that are not ok on the map of fullBase, for each clause of the chapter by itself.
func wrongStores() map[string]impl.StoStore {
	m, c, recs := fullBase(251)
	wrong := map[string]impl.StoStore{
		"nothing":                {},
		"an age below 0":         {Age: -1, Base: c, Recs: recs[:3]},
		"an age past all":        {Age: 901, Base: c, Recs: recs[:3]},
		"an age far past all":    {Age: farNumbers[5], Base: c},
		"a record too many":      {Age: 1, Base: c, Recs: recs},
		"too many, and none ok":  {Age: 1, Base: c, Recs: make([]impl.LogRec, 251)},
		"records without a base": {Age: 1, Recs: recs[:3]},
	}
	for why, base := range wrongCells(m, c) {
		wrong["the base: "+why] = impl.StoStore{Age: 1, Base: base}
		wrong["the base with records: "+why] = impl.StoStore{Age: 1, Base: base, Recs: recs[:3]}
	}
	stops := wrongRecords(m)
	stops["an order of one that is away"] = restOf(5, 1)
	stops["an order that is not fresh"] = restOf(4, 1)
	stops["a parcel that is not the next one"] = cameFrom(0, impl.PclParcel{N: 1, Kind: 2, Coins: 1})
	stops["parcels that have not gone"] = ackOf(1, 1)
	for why, stop := range stops {
		for place, at := range map[string]int{"first": 0, "in the middle": 3, "last": 6} {
			wrong[place+": "+why] = impl.StoStore{Age: 1, Base: c, Recs: slices.Insert(slices.Clone(recs[:6]), at, stop)}
		}
	}
	wrong["the last of so many"] = impl.StoStore{Age: 1, Base: c, Recs: append(recs[:249:249], recs[248])}
	return wrong
}

// askNoStore asks what each function answers of a store that is not ok, or on a map that is not.
func askNoStore(t *testing.T, why string, m impl.PlcMap, s impl.StoStore) {
	t.Helper()
	if impl.StoOk(m, s) {
		t.Errorf("%s: StoOk(%v, %+v) is true", why, m, s)
	}
	if c := impl.StoState(m, s); !isNothing(c) {
		t.Errorf("%s: StoState(%v, %+v) is %+v", why, m, s, c)
	}
	for _, age := range []int{-1, 0, s.Age, s.Age + 1, 900, 901} {
		if got, ok := impl.StoFence(m, s, age); ok || !isNoStore(got) {
			t.Errorf("%s: StoFence(%v, %+v, %d) is %+v, %v", why, m, s, age, got, ok)
		}
		for _, at := range []int{0, len(s.Recs)} {
			for _, r := range []impl.LogRec{restOf(4, 900), {}} {
				if got, code := impl.StoAppend(m, s, age, at, r); code != 0 || !isNoStore(got) {
					t.Errorf("%s: StoAppend(%v, %+v, %d, %d, %+v) is %+v, %d", why, m, s, age, at, r, got, code)
				}
			}
		}
	}
}

func TestP43P44P45StoresThatAreNotOk(t *testing.T) {
	m, c, recs := fullBase(250)
	for why, s := range wrongStores() {
		askNoStore(t, why, m, s)
		if t.Failed() {
			return
		}
	}
	for _, bad := range badMaps() {
		askNoStore(t, "the map", bad, impl.StoStore{Base: c, Recs: recs[:2]})
	}
	for _, age := range []int{0, 1, 899, 900} {
		for _, count := range []int{0, 1, 249, 250} {
			if s := (impl.StoStore{Age: age, Base: c, Recs: recs[:count]}); !impl.StoOk(m, s) {
				t.Errorf("in the age %d with %d records StoOk is false", age, count)
			}
		}
	}
}

func TestP45NewStores(t *testing.T) {
	for _, m := range okMaps() {
		for _, list := range okWalkers(m, 151)[470:] {
			for cell := -1; cell <= m.Cells; cell++ {
				got := impl.StoNew(m, cell, list)
				c := impl.CllNew(m, cell, list)
				if !sameStore(got, impl.StoStore{Base: c}) {
					t.Fatalf("StoNew(%v, %d, %v) is %+v", m, cell, list, got)
				}
				inside := cell >= 0 && cell < m.Cells
				if impl.StoOk(m, got) != inside || !sameCell(impl.StoState(m, got), c) || inside == isNoStore(got) {
					t.Fatalf("StoNew(%v, %d, %v) is %+v: %v", m, cell, list, got, impl.StoOk(m, got))
				}
			}
		}
	}
	for _, m := range badMaps() {
		if got := impl.StoNew(m, 0, nil); !isNoStore(got) {
			t.Errorf("StoNew(%v) is %+v", m, got)
		}
	}
	m := impl.PlcMap{Cells: 3, Width: 4}
	for _, list := range [][]impl.WlkWalker{{{}}, {{Id: 1, At: 12}}, {{Id: 2, At: 1}, {Id: 1, At: 1}}, {{Id: 2, At: 1}, {Id: 2, At: 5}}, {{Id: 2, At: 1, Coins: 100}}} {
		for cell := range 3 {
			if got := impl.StoNew(m, cell, list); !isNoStore(got) {
				t.Errorf("StoNew(%d, %v) is %+v", cell, list, got)
			}
		}
	}
}
