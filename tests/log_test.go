package tests

import (
	"math/rand"
	"slices"
	"testing"

	"loop.example/landmarch/impl"
)

// askApply asks that a record is done as the words say, and as the promise says it by the functions of cells.
func askApply(t *testing.T, m impl.PlcMap, c impl.CllCell, r impl.LogRec) bool {
	t.Helper()
	got, code, fits := impl.LogApply(m, c, r)
	want, wantCode, wantFits := applyPlainly(m, c, r)
	if code != wantCode || fits != wantFits || !sameCell(got, want) {
		t.Fatalf("LogApply(%v, %+v, %+v) is\n%+v, %d, %v, not\n%+v, %d, %v", m, c, r, got, code, fits, want, wantCode, wantFits)
	}
	if !impl.LogOk(m, r) {
		return fits
	}
	done, doneCode, does := impl.CllCell{}, 0, false
	switch r.Kind {
	case impl.LogDo:
		if does = impl.CllFresh(m, c, r.Order); does {
			done, doneCode = impl.CllDo(m, c, r.Order)
		}
	case impl.LogIn:
		done, does = impl.CllIn(m, c, r.Side, r.Parcel)
	case impl.LogAck:
		done, does = impl.CllAck(m, c, r.Side, r.N)
	}
	if fits != does || fits && (!sameCell(got, done) || code != doneCode) || !fits && (!sameCell(got, c) || code != 0) {
		t.Fatalf("LogApply(%v, %+v, %+v) is\n%+v, %d, %v; that of the cell is\n%+v, %d, %v", m, c, r, got, code, fits, done, doneCode, does)
	}
	return fits
}

// recordsFor is records of every kind for a cell: orders below, at and above the Seq of walkers who are there and who are not, parcels from both sides and from none, numbers around those of Outs.
func recordsFor(r *rand.Rand, m impl.PlcMap, c impl.CllCell) []impl.LogRec {
	var recs []impl.LogRec
	for who := 1; who <= 9; who++ {
		orders := deedsOf(who, 0)
		for _, seq := range []int{0, 1, 2, 3, 449, 450, 451, 897, 898, 899, 900, 901} {
			o := orders[r.Intn(len(orders))]
			o.Seq = seq
			recs = append(recs, didOf(o))
		}
	}
	for side := -1; side <= 2; side++ {
		for _, p := range someParcels(r, m, c) {
			recs = append(recs, cameFrom(side, p))
		}
		for _, n := range ackNumbers(c, max(0, min(side, 1))) {
			recs = append(recs, ackOf(side, n))
		}
	}
	return recs
}

func TestP40RecordsOfEveryKind(t *testing.T) {
	r := rand.New(rand.NewSource(101))
	count := map[int]map[bool]int{1: {}, 2: {}, 3: {}}
	eachOkCell(t, 102, 60, func(m impl.PlcMap, c impl.CllCell) {
		for _, record := range recordsFor(r, m, c) {
			count[record.Kind][askApply(t, m, c, record)]++
		}
	})
	for kind, fits := range count {
		if fits[true] < 100 || fits[false] < 100 {
			t.Errorf("of the Kind %d so many fitted, so many not: %v", kind, fits)
		}
	}
}

func TestP40EveryFreshOrder(t *testing.T) {
	eachFresh(t, 103, 6, func(m impl.PlcMap, c impl.CllCell, o impl.OrdOrder) {
		if !askApply(t, m, c, didOf(o)) {
			t.Fatalf("%+v does not fit in %+v", o, c)
		}
	})
}

// An order with the walker's own Seq, or with an earlier one, is no record, whatever CllDo tells of it; nor is one of a walker that is away.
func TestP40OrdersThatAreNotFresh(t *testing.T) {
	m := impl.PlcMap{Cells: 3, Width: 3}
	c := turnedCell(bareCell(1), func(c *impl.CllCell) {
		c.Walkers = []impl.WlkWalker{{Id: 4, At: 3, Coins: 5, Seq: 7, Last: impl.CodeDone}}
		c.Outs[0], c.Next[0] = []impl.PclParcel{{Kind: impl.PclWalker, Walker: impl.WlkWalker{Id: 5, At: 2, Seq: 1}}}, 1
	})
	for _, row := range []struct {
		who, seq, code int
		want           bool
	}{
		{4, 1, 0, false}, {4, 6, 0, false}, {4, 7, 0, false}, {4, 8, impl.CodeDone, true}, {4, 900, impl.CodeDone, true}, {5, 2, 0, false}, {9, 1, 0, false},
	} {
		got, code, fits := impl.LogApply(m, c, restOf(row.who, row.seq))
		if fits != row.want || code != row.code || !fits && !sameCell(got, c) || fits && got.Walkers[0].Seq != row.seq {
			t.Errorf("the order %d of %d: %+v, %d, %v", row.seq, row.who, got, code, fits)
		}
	}
	// One that is refused was done: it fits, and has its code.
	step := didOf(impl.OrdOrder{Who: 4, Seq: 8, Kind: impl.OrdPick, N: 1})
	if got, code, fits := impl.LogApply(m, c, step); !fits || code != impl.CodeBare || got.Walkers[0].Last != impl.CodeBare {
		t.Errorf("to pick nothing up: %+v, %d, %v", got, code, fits)
	}
}

// On a side with no cell the cell stays as it is; on what is no side at all there is no record.
func TestP40Sides(t *testing.T) {
	m := impl.PlcMap{Cells: 2, Width: 2}
	for cell := range 2 {
		c := turnedCell(bareCell(cell), func(c *impl.CllCell) {
			c.Outs[1-cell], c.Next[1-cell] = []impl.PclParcel{{Kind: impl.PclCoins, Coins: 1}}, 1
		})
		for _, side := range sidesAround {
			for why, record := range map[string]impl.LogRec{"a parcel": cameFrom(side, impl.PclParcel{Kind: impl.PclCoins, Coins: 2}), "parcels have come": ackOf(side, 1)} {
				want := impl.CllCell{}
				if side == cell {
					want = c
				}
				got, code, fits := impl.LogApply(m, c, record)
				if fits != (side == 1-cell) || code != 0 || !fits && !sameCell(got, want) {
					t.Errorf("%s, side %d of the cell %d: %+v, %d, %v", why, side, cell, got, code, fits)
				}
			}
		}
	}
}

func TestP40NumbersAtTheEdges(t *testing.T) {
	m := impl.PlcMap{Cells: 3, Width: 3}
	coins := func(n int) impl.PclParcel { return impl.PclParcel{N: n, Kind: impl.PclCoins, Coins: 9} }
	outs := func(next int) cellTurn {
		return func(c *impl.CllCell) { c.Outs[1], c.Next[1] = []impl.PclParcel{coins(next - 1)}, next }
	}
	ins := func(n int) cellTurn { return func(c *impl.CllCell) { c.Ins[0] = n } }
	for _, row := range []struct {
		why      string
		turn     cellTurn
		r        impl.LogRec
		ok, fits bool
	}{
		{"0 have come", outs(1), ackOf(1, 0), false, false},
		{"1 has come", outs(1), ackOf(1, 1), true, true},
		{"1 has come, there is none", nothingTurns, ackOf(1, 1), true, false},
		{"1 has come, it is let go", nextIs(1, 1), ackOf(1, 1), true, false},
		{"2 have come, one has gone", outs(1), ackOf(1, 2), true, false},
		{"the last one has come", outs(5000), ackOf(1, 5000), true, true},
		{"one ahead of the last one", outs(5000), ackOf(1, 4999), true, false},
		{"past the last one", outs(5000), ackOf(1, 5001), false, false},
		{"the first parcel", nothingTurns, cameFrom(0, coins(0)), true, true},
		{"the second one first", nothingTurns, cameFrom(0, coins(1)), true, false},
		{"the first one twice", ins(1), cameFrom(0, coins(0)), true, false},
		{"below all parcels", nothingTurns, cameFrom(0, coins(-1)), false, false},
		{"the last parcel", ins(4999), cameFrom(0, coins(4999)), true, true},
		{"the last parcel twice", ins(5000), cameFrom(0, coins(4999)), true, false},
		{"past the last parcel", ins(5000), cameFrom(0, coins(5000)), false, false},
		{"no room for it", groundIs(892), cameFrom(0, coins(0)), true, false},
	} {
		c := turnedCell(bareCell(1), row.turn)
		if ok := impl.LogOk(m, row.r); ok != row.ok {
			t.Errorf("%s: LogOk(%+v) is %v", row.why, row.r, ok)
		}
		if fits := askApply(t, m, c, row.r); fits != row.fits {
			t.Errorf("%s: LogApply(%+v, %+v) is %v", row.why, c, row.r, fits)
		}
	}
}

func TestP40RecordsThatAreNotOk(t *testing.T) {
	m, c, _ := fullBase(0)
	c = twoParcels(m, c, 1)
	for why, record := range wrongRecords(m) {
		if impl.LogOk(m, record) || recordOkPlainly(m, record) {
			t.Errorf("%s: LogOk(%+v) is true", why, record)
		}
		if got, code, fits := impl.LogApply(m, c, record); fits || code != 0 || !isNothing(got) {
			t.Errorf("%s: LogApply(%+v) is %+v, %d, %v", why, record, got, code, fits)
		}
		// A fold stops there, with the cell as it is.
		if got, count := impl.LogFold(m, c, []impl.LogRec{record}); count != 0 || !sameCell(got, c) {
			t.Errorf("%s: LogFold(%+v) is %+v, %d", why, record, got, count)
		}
	}
}

// Each number of a record in and out of its bounds, in all ways together.
func TestP40AnyRecords(t *testing.T) {
	orders := []impl.OrdOrder{{}, {Who: 1}, {Who: 1, Seq: 1, Kind: 6}, {Who: 1, Seq: 1, Kind: 6, N: 1}, {Who: 9, Seq: 900, Kind: 1, To: 1}}
	parcels := []impl.PclParcel{{}, {N: 1}, {Kind: 2, Coins: 1}, {N: 4999, Kind: 2, Coins: 9}, {N: 5000, Kind: 2, Coins: 9}, {Kind: 1, Walker: impl.WlkWalker{Id: 1, At: 3}}, {Kind: 1, Walker: impl.WlkWalker{Id: 1, At: 31}}}
	maps := []impl.PlcMap{{Cells: 2, Width: 2}, {Cells: 4, Width: 8}, {}, {Cells: 1, Width: 2}, {Cells: 5, Width: 8}, {Cells: 4, Width: 9}}
	count := map[int]int{}
	for _, kind := range numbersAround(1, 3) {
		for _, o := range orders {
			for _, p := range parcels {
				for _, side := range sidesAround {
					for _, n := range append([]int{-1, 0, 1, 2, 4999, 5000, 5001}, farNumbers...) {
						r := impl.LogRec{Kind: kind, Order: o, Side: side, Parcel: p, N: n}
						for _, m := range maps {
							if got, want := impl.LogOk(m, r), recordOkPlainly(m, r); got != want {
								t.Fatalf("LogOk(%v, %+v) is %v", m, r, got)
							} else if got {
								count[kind]++
							}
						}
					}
				}
			}
		}
	}
	if count[1] == 0 || count[2] == 0 || count[3] == 0 {
		t.Errorf("so many were ok: %v", count)
	}
}

func TestP39P40CellsAndMapsThatAreNotOk(t *testing.T) {
	good, base, recs := fullBase(3)
	recs = append(recs, cameFrom(0, impl.PclParcel{Kind: impl.PclCoins, Coins: 1}), ackOf(1, 1))
	ask := func(why string, m impl.PlcMap, c impl.CllCell) {
		for _, r := range recs {
			if got, code, fits := impl.LogApply(m, c, r); fits || code != 0 || !isNothing(got) {
				t.Errorf("%s: LogApply(%v, %+v, %+v) is %+v, %d, %v", why, m, c, r, got, code, fits)
			}
		}
		for _, list := range [][]impl.LogRec{nil, {}, recs, recs[3:]} {
			if got, count := impl.LogFold(m, c, list); count != 0 || !isNothing(got) {
				t.Errorf("%s: LogFold(%v, %+v) is %+v, %d", why, m, c, got, count)
			}
		}
	}
	for why, c := range wrongCells(good, base) {
		ask(why, good, c)
	}
	for _, m := range badMaps() {
		ask("the map", m, base)
		for _, r := range recs {
			if impl.LogOk(m, r) {
				t.Errorf("LogOk(%v, %+v) is true", m, r)
			}
		}
	}
}

func TestP39LogsCutAtEachPlace(t *testing.T) {
	sizes := 0
	eachLog(111, 12, 40, func(m impl.PlcMap, c impl.CllCell, recs []impl.LogRec) {
		all, count := askFold(t, m, c, recs)
		if count != len(recs) {
			t.Fatalf("LogFold stops at %d of %d", count, len(recs))
		}
		sizes += count
		for cut := range len(recs) + 1 {
			half, first := askFold(t, m, c, recs[:cut])
			got, behind := askFold(t, m, half, recs[cut:])
			if first != cut || behind != len(recs)-cut || !sameCell(got, all) {
				t.Fatalf("cut at %d: %d and %d, %+v, not %+v", cut, first, behind, got, all)
			}
		}
	})
	if sizes < 1000 {
		t.Errorf("all logs have %d records", sizes)
	}
}

// A record that does not fit, or is not ok, at each place: the fold stops there, whatever stands behind it.
func TestP39WhereAFoldStops(t *testing.T) {
	r := rand.New(rand.NewSource(112))
	eachLog(113, 6, 25, func(m impl.PlcMap, c impl.CllCell, recs []impl.LogRec) {
		for at := range len(recs) + 1 {
			state, _ := impl.LogFold(m, c, recs[:at])
			stop := recordsFor(r, m, state)
			stop = slices.DeleteFunc(stop, func(r impl.LogRec) bool { _, _, fits := applyPlainly(m, state, r); return fits })
			for range 4 {
				with := slices.Insert(slices.Clone(recs), at, stop[r.Intn(len(stop))])
				got, count := askFold(t, m, c, with)
				if count != at || !sameCell(got, state) {
					t.Fatalf("with %+v at %d LogFold is %+v, %d", with[at], at, got, count)
				}
				if _, _, fits := impl.LogApply(m, got, with[count]); fits {
					t.Fatalf("where it stops %+v fits in %+v", with[count], got)
				}
			}
		}
	})
}

func TestP39AnyRecordsOneBehindTheOther(t *testing.T) {
	r := rand.New(rand.NewSource(114))
	stops := map[int]int{}
	eachOkCell(t, 115, 60, func(m impl.PlcMap, c impl.CllCell) {
		var recs []impl.LogRec
		for range r.Intn(8) {
			recs = append(recs, someRecord(r, m, c))
		}
		state, count := askFold(t, m, c, recs)
		stops[count]++
		if count < len(recs) {
			if _, _, fits := impl.LogApply(m, state, recs[count]); fits {
				t.Fatalf("where it stops %+v fits in %+v", recs[count], state)
			}
		}
	})
	if len(stops) < 4 {
		t.Errorf("folds stopped at %v", stops)
	}
}

func TestP39AsManyRecordsAsThereMayBe(t *testing.T) {
	for _, size := range []int{0, 1, 249, 250} {
		m, c, recs := fullBase(size)
		if got, count := askFold(t, m, c, recs); count != size || got.Walkers[0].Seq != size {
			t.Errorf("LogFold of %d records is %+v, %d", size, got, count)
		}
	}
	for _, size := range []int{251, 252, 500} {
		m, c, recs := fullBase(size)
		for why, list := range map[string][]impl.LogRec{"all fit": recs, "none fits": make([]impl.LogRec, size), "the last one does not": append(recs[:size-1:size-1], impl.LogRec{})} {
			if got, count := impl.LogFold(m, c, list); count != 0 || !isNothing(got) {
				t.Errorf("LogFold of %d records, %s, is %+v, %d", size, why, got, count)
			}
		}
	}
}

func TestP42EachOrderStandsOnce(t *testing.T) {
	orders := 0
	eachLog(121, 40, 60, func(m impl.PlcMap, c impl.CllCell, recs []impl.LogRec) {
		recs = slices.DeleteFunc(recs, func(r impl.LogRec) bool { return r.Parcel.Kind == impl.PclWalker })
		// An order once more does not fit: the fold ends ahead of it.
		recs = append(recs, recs...)
		recs = recs[:min(len(recs), 250)]
		_, count := impl.LogFold(m, c, recs)
		recs = recs[:count]
		for _, r := range recs {
			if r.Kind != impl.LogDo {
				continue
			}
			orders++
			if n := impl.LogCount(recs, r.Order.Who, r.Order.Seq); n != 1 {
				t.Fatalf("LogCount(%+v, %d, %d) is %d", recs, r.Order.Who, r.Order.Seq, n)
			}
		}
		if n := impl.LogCount(recs, 0, 0); n != 0 {
			t.Fatalf("LogCount(%+v, 0, 0) is %d", recs, n)
		}
	})
	if orders < 500 {
		t.Errorf("%d orders were done", orders)
	}
}

// Of any records, ok or not, those of the Kind LogDo count; To and N of the order do not matter.
func TestP42CountsOfAnyRecords(t *testing.T) {
	r := rand.New(rand.NewSource(122))
	most := 0
	for range 300 {
		var recs []impl.LogRec
		for range r.Intn(300) {
			o := impl.OrdOrder{Who: r.Intn(5) - 1, Seq: r.Intn(4) - 1, Kind: r.Intn(8), To: r.Intn(3), N: r.Intn(3)}
			recs = append(recs, impl.LogRec{Kind: r.Intn(5), Order: o, Side: r.Intn(2), N: r.Intn(2)})
		}
		for who := -2; who <= 5; who++ {
			for seq := -2; seq <= 4; seq++ {
				got := impl.LogCount(recs, who, seq)
				if got != countPlainly(recs, who, seq) {
					t.Fatalf("LogCount(%+v, %d, %d) is %d", recs, who, seq, got)
				}
				most = max(most, got)
			}
		}
	}
	if most < 2 {
		t.Error("no order stood twice")
	}
	if n := impl.LogCount(nil, 1, 1) + impl.LogCount([]impl.LogRec{{}}, 0, 0) + impl.LogCount([]impl.LogRec{{Kind: 2, Order: impl.OrdOrder{Who: 1, Seq: 1}}}, 1, 1); n != 0 {
		t.Errorf("so many orders stand where none was done: %d", n)
	}
}
