package tests

import (
	"math/rand"
	"slices"
	"testing"

	"loop.example/landmarch/impl"
)

// holdAges is ages at the ends of those of a hold, one past them, around one, and far numbers.
func holdAges(age int) []int {
	return append(agesAround(age), -2, 2)
}

// askOpen asks that a store that is ok is opened as the words say, and what the promises say of it.
func askOpen(t *testing.T, m impl.PlcMap, s impl.StoStore, age int) (impl.HldHolder, impl.StoStore, bool) {
	t.Helper()
	hold, after, ok := impl.HldOpen(m, s, age)
	wantHold, wantAfter, wantOk := openPlainly(m, s, age)
	if ok != wantOk || !sameHold(hold, wantHold) || !sameStore(after, wantAfter) {
		t.Fatalf("HldOpen(%v, %+v, %d) is\n%+v, %+v, %v, not\n%+v, %+v, %v", m, s, age, hold, after, ok, wantHold, wantAfter, wantOk)
	}
	if !ok {
		return hold, after, ok
	}
	if hold.Age != age || hold.Count != len(s.Recs) || !sameCell(hold.State, impl.StoState(m, s)) || !impl.HldOk(m, hold) {
		t.Fatalf("HldOpen(%v, %+v, %d) has the hold %+v", m, s, age, hold)
	}
	fenced, _ := impl.StoFence(m, s, age)
	if after.Age != age || !sameStore(after, fenced) || !impl.StoOk(m, after) {
		t.Fatalf("HldOpen(%v, %+v, %d) has the store %+v", m, s, age, after)
	}
	return hold, after, ok
}

// askWrite asks that a hold that is ok writes as the words say, and what the promises say of it; what came of the writing, and of an order.
func askWrite(t *testing.T, m impl.PlcMap, h impl.HldHolder, s impl.StoStore, r impl.LogRec) (int, int) {
	t.Helper()
	hold, after, written, came := impl.HldWrite(m, h, s, r)
	wantHold, wantAfter, wantWritten, wantCame := writePlainly(m, h, s, r)
	if written != wantWritten || came != wantCame || !sameHold(hold, wantHold) || !sameStore(after, wantAfter) {
		t.Fatalf("HldWrite(%v, %+v, %+v, %+v) is\n%+v, %+v, %d, %d, not\n%+v, %+v, %d, %d", m, h, s, r, hold, after, written, came, wantHold, wantAfter, wantWritten, wantCame)
	}
	askWritten(t, m, h, s, r)
	return written, came
}

// askWritten asks what P33 says of a hold and a store that are ok, by the functions of logs.
func askWritten(t *testing.T, m impl.PlcMap, h impl.HldHolder, s impl.StoStore, r impl.LogRec) {
	t.Helper()
	hold, after, written, came := impl.HldWrite(m, h, s, r)
	state := impl.StoState(m, s)
	_, _, fitsStore := impl.LogApply(m, state, r)
	own, ownCame, fitsHold := impl.LogApply(m, h.State, r)
	writes := h.Age == s.Age && h.Count == len(s.Recs) && len(s.Recs) < impl.LogMax && fitsStore && fitsHold
	if writes != (written == impl.StoDone) || !impl.HldOk(m, hold) || !impl.StoOk(m, after) {
		t.Fatalf("HldWrite(%v, %+v, %+v, %+v) is %+v, %+v, %d", m, h, s, r, hold, after, written)
	}
	if !writes {
		if came != 0 || !sameHold(hold, h) || !sameStore(after, s) {
			t.Fatalf("HldWrite(%v, %+v, %+v, %+v) is %d, but turned: %+v, %+v, %d", m, h, s, r, written, hold, after, came)
		}
		return
	}
	if came != ownCame || hold.Age != h.Age || hold.Count != h.Count+1 || !sameCell(hold.State, own) {
		t.Fatalf("HldWrite(%v, %+v, %+v, %+v) has the hold %+v and %d", m, h, s, r, hold, came)
	}
	if after.Age != s.Age || !sameCell(after.Base, s.Base) || !slices.Equal(after.Recs, append(slices.Clone(s.Recs), r)) {
		t.Fatalf("HldWrite(%v, %+v, %+v, %+v) has the store %+v", m, h, s, r, after)
	}
	if sameCell(h.State, state) && !sameCell(hold.State, impl.StoState(m, after)) {
		t.Fatalf("behind HldWrite(%v, %+v, %+v, %+v) the state is %+v, that of the store %+v", m, h, s, r, hold.State, impl.StoState(m, after))
	}
}

func TestP32P35StoresAreOpened(t *testing.T) {
	opened := map[bool]int{}
	eachStore(201, 20, 40, func(r *rand.Rand, m impl.PlcMap, s impl.StoStore) {
		for _, age := range holdAges(s.Age) {
			_, _, ok := askOpen(t, m, s, age)
			opened[ok]++
		}
	})
	if opened[true] < 100 || opened[false] < 100 {
		t.Errorf("so many were opened: %v", opened)
	}
}

// A new store, one with a record, and one that is full, in ages at their ends.
func TestP32StoresAtTheirEnds(t *testing.T) {
	m, c, recs := fullBase(250)
	for _, count := range []int{0, 1, 249, 250} {
		for _, of := range []int{0, 1, 2, 899, 900} {
			s := impl.StoStore{Age: of, Base: c, Recs: recs[:count]}
			for _, age := range holdAges(of) {
				hold, _, ok := askOpen(t, m, s, age)
				if want := age >= 1 && age >= of && age <= 900; ok != want {
					t.Errorf("in the age %d of a store of the age %d HldOpen is %v", age, of, ok)
				}
				if ok && (hold.Count != count || hold.State.Walkers[0].Seq != count) {
					t.Errorf("of %d records the hold is %+v", count, hold)
				}
			}
		}
	}
	for cell := range m.Cells {
		list := []impl.WlkWalker{{Id: 2, At: 1, Coins: 4}, {Id: 5, At: 4}, {Id: 7, At: 8, Last: 9}}
		hold, _, ok := askOpen(t, m, impl.StoNew(m, cell, list), 1)
		if !ok || hold.Count != 0 || !sameCell(hold.State, impl.CllNew(m, cell, list)) {
			t.Errorf("of a new store the hold is %+v, %v", hold, ok)
		}
	}
}

// The same age once more is the same, an earlier one is nothing, and leaves the store as it is.
func TestP35StoresAreOpenedOnceMore(t *testing.T) {
	eachStore(202, 20, 30, func(r *rand.Rand, m impl.PlcMap, s impl.StoStore) {
		hold, after, ok := impl.HldOpen(m, s, max(1, s.Age))
		if !ok {
			t.Fatalf("HldOpen(%v, %+v) of its own age is false", m, s)
		}
		again, afterAgain, okAgain := impl.HldOpen(m, after, hold.Age)
		if !okAgain || !sameHold(again, hold) || !sameStore(afterAgain, after) {
			t.Fatalf("HldOpen(%v, %+v, %d) once more is %+v, %+v, %v", m, after, hold.Age, again, afterAgain, okAgain)
		}
		for _, earlier := range []int{1, 2, hold.Age / 2, hold.Age - 1} {
			if earlier < 1 || earlier >= hold.Age {
				continue
			}
			if none, left, fits := impl.HldOpen(m, after, earlier); fits || !isNoHold(none) || !sameStore(left, after) {
				t.Fatalf("HldOpen(%v, %+v, %d) is %+v, %+v, %v", m, after, earlier, none, left, fits)
			}
		}
		if none, nothing, fits := impl.HldOpen(m, after, 0); fits || !isNoHold(none) || !isNoStore(nothing) {
			t.Fatalf("HldOpen(%v, %+v, 0) is %+v, %+v, %v", m, after, none, nothing, fits)
		}
	})
}

// Who opens in the same age behind a record has that one too.
func TestP32P35OpenedBehindARecord(t *testing.T) {
	m, c, recs := fullBase(3)
	hold, s, _ := impl.HldOpen(m, impl.StoStore{Base: c}, 5)
	for i, record := range recs {
		hold, s, _, _ = impl.HldWrite(m, hold, s, record)
		again, after, ok := askOpen(t, m, s, 5)
		if !ok || again.Count != i+1 || !sameHold(again, hold) || !sameStore(after, s) {
			t.Errorf("behind %d records HldOpen is %+v, %v", i+1, again, ok)
		}
	}
}

// holdsAround is holds near to the one that a store's last opener has: of other ages, with fewer and more records read, with another state.
func holdsAround(r *rand.Rand, m impl.PlcMap, s impl.StoStore) []impl.HldHolder {
	state := impl.StoState(m, s)
	right := impl.HldHolder{Age: max(1, s.Age), Count: len(s.Recs), State: state}
	holds := []impl.HldHolder{right, right, right}
	add := func(age, count int, c impl.CllCell) {
		h := impl.HldHolder{Age: age, Count: count, State: c}
		if holdOkPlainly(m, h) {
			holds = append(holds, h)
		}
	}
	for _, age := range []int{1, s.Age - 1, s.Age + 1, 900} {
		add(age, right.Count, state)
	}
	for _, count := range []int{0, right.Count - 1, right.Count + 1, 250} {
		add(right.Age, count, state)
	}
	add(right.Age, right.Count, s.Base)
	add(right.Age, right.Count, bareCell(r.Intn(m.Cells)))
	add(right.Age, right.Count, anyOkCell(r, m, state.Cell))
	add(right.Age, right.Count, anyOkCell(r, m, r.Intn(m.Cells)))
	return holds
}

func TestP33HoldsWrite(t *testing.T) {
	type outcome struct{ kind, written int }
	outcomes := map[outcome]int{}
	eachStore(203, 10, 30, func(r *rand.Rand, m impl.PlcMap, s impl.StoStore) {
		s.Age = max(1, s.Age)
		state := impl.StoState(m, s)
		recs := recordsFor(r, m, state)
		for i, h := range holdsAround(r, m, s) {
			for range 10 {
				record := someRecord(r, m, state)
				if i%3 == 1 {
					record = recs[r.Intn(len(recs))]
				}
				written, _ := askWrite(t, m, h, s, record)
				outcomes[outcome{record.Kind, written}]++
			}
		}
	})
	for kind := impl.LogDo; kind <= impl.LogAck; kind++ {
		for written := impl.StoDone; written <= impl.StoNot; written++ {
			if outcomes[outcome{kind, written}] < 30 {
				t.Errorf("so many of each: %v", outcomes)
			}
		}
	}
}

// A store of the age 0 is nobody's: no hold is of that age.
func TestP33NobodyWritesInTheAgeNought(t *testing.T) {
	m, c, recs := fullBase(2)
	s := impl.StoStore{Base: c, Recs: recs[:1]}
	for _, age := range []int{1, 2, 900} {
		if written, _ := askWrite(t, m, impl.HldHolder{Age: age, Count: 1, State: impl.StoState(m, s)}, s, recs[1]); written != impl.StoFenced {
			t.Errorf("in the age %d it is %d", age, written)
		}
	}
	askNoWrite(t, "the age 0", m, impl.HldHolder{Age: 0, Count: 1, State: impl.StoState(m, s)}, s, recs[1])
}

// Which code it is where several would hold, and at the edges of what a hold has read.
func TestP33TheOrderOfTheCodesOfHolds(t *testing.T) {
	m, c, recs := fullBase(251)
	state := func(count int) impl.CllCell {
		c, _ := foldPlainly(m, c, recs[:count])
		return c
	}
	s := impl.StoStore{Age: 7, Base: c, Recs: recs[:3]}
	full := impl.StoStore{Age: 7, Base: c, Recs: recs[:250]}
	fits, old, wrong := recs[3], recs[2], impl.LogRec{}
	for _, row := range []struct {
		why        string
		s          impl.StoStore
		age, count int
		state      impl.CllCell
		r          impl.LogRec
		want       int
	}{
		{"all fits", s, 7, 3, state(3), fits, impl.StoDone},
		{"an earlier age", s, 6, 3, state(3), fits, impl.StoFenced},
		{"a later age", s, 8, 3, state(3), fits, impl.StoFenced},
		{"the first age", s, 1, 3, state(3), fits, impl.StoFenced},
		{"the last age", s, 900, 3, state(3), fits, impl.StoFenced},
		{"another age, fewer records", s, 6, 2, state(2), fits, impl.StoFenced},
		{"another age, it does not fit", s, 6, 3, state(3), old, impl.StoFenced},
		{"another age, a record that is not ok", s, 8, 3, state(3), wrong, impl.StoFenced},
		{"another age, it does not fit in the hold", s, 6, 3, bareCell(1), fits, impl.StoFenced},
		{"another age, the log is full", full, 8, 250, state(250), recs[250], impl.StoFenced},
		{"fewer records", s, 7, 2, state(2), fits, impl.StoElse},
		{"none read", s, 7, 0, state(0), recs[0], impl.StoElse},
		{"more records", s, 7, 4, state(3), fits, impl.StoElse},
		{"all that there may be", s, 7, 250, state(3), fits, impl.StoElse},
		{"fewer records, it does not fit", s, 7, 2, state(2), old, impl.StoElse},
		{"fewer records, it does not fit in the hold", s, 7, 2, bareCell(1), fits, impl.StoElse},
		{"more records, a record that is not ok", s, 7, 4, state(3), wrong, impl.StoElse},
		{"the log is full", full, 7, 250, state(250), recs[250], impl.StoElse},
		{"the log is full, fewer records", full, 7, 249, state(249), recs[249], impl.StoElse},
		{"the log is full, it does not fit", full, 7, 250, state(250), recs[249], impl.StoElse},
		{"the log is full, a record that is not ok", full, 7, 250, state(250), wrong, impl.StoElse},
		{"it does not fit", s, 7, 3, state(3), old, impl.StoNot},
		{"a record that is not ok", s, 7, 3, state(3), wrong, impl.StoNot},
		{"it fits in the hold alone", s, 7, 3, state(2), old, impl.StoNot},
		{"it fits in the store alone", s, 7, 3, state(4), fits, impl.StoNot},
		{"who is in the store alone", s, 7, 3, bareCell(1), fits, impl.StoNot},
		{"a hold on another cell", s, 7, 3, bareCell(0), fits, impl.StoNot},
		{"it fits in both, which are not the same", s, 7, 3, state(2), fits, impl.StoDone},
		{"the last record", impl.StoStore{Age: 900, Base: c, Recs: recs[:249]}, 900, 249, state(249), recs[249], impl.StoDone},
		{"the first record", impl.StoStore{Age: 1, Base: c}, 1, 0, state(0), recs[0], impl.StoDone},
	} {
		h := impl.HldHolder{Age: row.age, Count: row.count, State: row.state}
		if written, _ := askWrite(t, m, h, row.s, row.r); written != row.want {
			t.Errorf("%s: %d, not %d", row.why, written, row.want)
		}
	}
}

func TestP33RecordsThatAreNotOkAreNotWrittenByHolds(t *testing.T) {
	m, c, recs := fullBase(2)
	hold, s, _ := impl.HldOpen(m, impl.StoStore{Age: 1, Base: twoParcels(m, c, 1), Recs: recs[:1]}, 1)
	for why, record := range wrongRecords(m) {
		if written, came := askWrite(t, m, hold, s, record); written != impl.StoNot || came != 0 {
			t.Errorf("%s: %d, %d", why, written, came)
		}
	}
}

// What came of an order is told from the hold's own state, and of a parcel there is nothing to tell.
func TestP33WhatCameOfAnOrder(t *testing.T) {
	m, c, _ := fullBase(0)
	poor := turnedCell(c, has(4, 0))
	drop := didOf(impl.OrdOrder{Who: 4, Seq: 1, Kind: impl.OrdDrop, N: 5})
	sent := twoParcels(m, c, 1)
	for _, row := range []struct {
		why    string
		of, in impl.CllCell
		r      impl.LogRec
		came   int
	}{
		{"both rich", c, c, drop, impl.CodeDone},
		{"both poor", poor, poor, drop, impl.CodePoor},
		{"a poor one in the hold", poor, c, drop, impl.CodePoor},
		{"a poor one in the store", c, poor, drop, impl.CodeDone},
		{"a throw from the other edge", c, c, didOf(impl.OrdOrder{Who: 4, Seq: 1, Kind: impl.OrdThrow, To: 1, N: 1}), impl.CodeInner},
		{"a parcel", c, c, cameFrom(0, impl.PclParcel{Kind: impl.PclCoins, Coins: 2}), 0},
		{"parcels that have come", sent, sent, ackOf(1, 3), 0},
	} {
		h := impl.HldHolder{Age: 1, State: row.of}
		if written, came := askWrite(t, m, h, impl.StoStore{Age: 1, Base: row.in}, row.r); written != impl.StoDone || came != row.came {
			t.Errorf("%s: %d, %d", row.why, written, came)
		}
	}
}

// Every code of an order comes through, each Kind of record among them.
func TestP33EveryCodeComesThrough(t *testing.T) {
	codes := map[int]int{}
	eachFresh(t, 204, 6, func(m impl.PlcMap, c impl.CllCell, o impl.OrdOrder) {
		hold, s, _ := impl.HldOpen(m, impl.StoStore{Base: c}, 3)
		_, want := doPlainly(m, c, o)
		_, _, written, came := impl.HldWrite(m, hold, s, didOf(o))
		if written != impl.StoDone || came != want {
			t.Fatalf("HldWrite of %+v in %+v is %d, %d, not %d", o, c, written, came, want)
		}
		codes[came]++
	})
	for code := impl.CodeDone; code <= impl.CodeInner; code++ {
		if codes[code] == 0 {
			t.Errorf("so many of each code: %v", codes)
		}
	}
}
