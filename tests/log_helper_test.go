package tests

import (
	"math/rand"
	"testing"

	"loop.example/landmarch/impl"
)

func didOf(o impl.OrdOrder) impl.LogRec {
	return impl.LogRec{Kind: impl.LogDo, Order: o}
}

func cameFrom(side int, p impl.PclParcel) impl.LogRec {
	return impl.LogRec{Kind: impl.LogIn, Side: side, Parcel: p}
}

func ackOf(side, n int) impl.LogRec {
	return impl.LogRec{Kind: impl.LogAck, Side: side, N: n}
}

// restOf is the record of a walker's rest: it fits wherever the walker is and that is fresh.
func restOf(who, seq int) impl.LogRec {
	return didOf(impl.OrdOrder{Who: who, Seq: seq, Kind: impl.OrdRest})
}

// freshRecord is the record of some order of a walker, with its next number or a later one.
func freshRecord(r *rand.Rand, w impl.WlkWalker) impl.LogRec {
	orders := deedsOf(w.Id, min(900, w.Seq+oneOf(r, 1, 1, 1, 2)))
	// The few steps, throws and rests as often as the many gifts.
	kind := 1 + r.Intn(6)
	for {
		if o := orders[r.Intn(len(orders))]; o.Kind == kind {
			return didOf(o)
		}
	}
}

// someRecord is a record that is ok and near to what fits in a cell: it may fit, or just not.
func someRecord(r *rand.Rand, m impl.PlcMap, c impl.CllCell) impl.LogRec {
	side := r.Intn(2)
	switch kind := r.Intn(5); {
	case kind < 3 && len(c.Walkers) > 0:
		return freshRecord(r, c.Walkers[r.Intn(len(c.Walkers))])
	case kind == 3:
		return cameFrom(side, parcelInto(r, m, oneOf(r, c.Cell, c.Cell, c.Cell, r.Intn(m.Cells)), min(c.Ins[side]+oneOf(r, 0, 0, 0, 1), 4999)))
	}
	return ackOf(side, min(5000, 1+max(0, c.Next[side]-r.Intn(4))))
}

// someLog is so many records that fit one behind the other in a cell; fewer, if that takes too long.
func someLog(r *rand.Rand, m impl.PlcMap, c impl.CllCell, count int) []impl.LogRec {
	var recs []impl.LogRec
	for range 6 * count {
		record := someRecord(r, m, c)
		if after, _, fits := applyPlainly(m, c, record); fits && len(recs) < count {
			c = after
			recs = append(recs, record)
		}
	}
	return recs
}

// someBase is a cell that is ok with walkers who have done little, so that much fits in it.
func someBase(r *rand.Rand, m impl.PlcMap, cell int) impl.CllCell {
	c := anyOkCell(r, m, cell)
	if r.Intn(4) == 0 {
		return c
	}
	c.Ground = oneOf(r, 0, 5, 450, 899)
	for i := range c.Walkers {
		c.Walkers[i].Seq = r.Intn(3)
	}
	for side := range 2 {
		if besidePlainly(m, cell, side) >= 0 {
			c.Outs[side], c.Next[side], c.Ins[side] = nil, r.Intn(3), r.Intn(3)
		}
	}
	return c
}

// eachLog is cells that are ok with records that fit in them, so many logs of each cell of some maps.
func eachLog(seed int64, count, size int, each func(m impl.PlcMap, c impl.CllCell, recs []impl.LogRec)) {
	r := rand.New(rand.NewSource(seed))
	for _, m := range []impl.PlcMap{{Cells: 2, Width: 2}, {Cells: 3, Width: 3}, {Cells: 4, Width: 8}} {
		for cell := range m.Cells {
			for range count {
				c := someBase(r, m, cell)
				each(m, c, someLog(r, m, c, r.Intn(size+1)))
			}
		}
	}
}

// eachStore is stores that are ok, in any age.
func eachStore(seed int64, count, size int, each func(r *rand.Rand, m impl.PlcMap, s impl.StoStore)) {
	r := rand.New(rand.NewSource(seed))
	eachLog(seed, count, size, func(m impl.PlcMap, c impl.CllCell, recs []impl.LogRec) {
		each(r, m, impl.StoStore{Age: oneOf(r, 0, 1, 2, 450, 899, 900), Base: c, Recs: recs})
	})
}

// fullBase is a cell whose walker 4 rests so many times.
func fullBase(count int) (impl.PlcMap, impl.CllCell, []impl.LogRec) {
	c := turnedCell(bareCell(1), func(c *impl.CllCell) { c.Walkers = []impl.WlkWalker{{Id: 4, At: 3, Coins: 5}} })
	var recs []impl.LogRec
	for seq := 1; seq <= count; seq++ {
		recs = append(recs, restOf(4, seq))
	}
	return impl.PlcMap{Cells: 3, Width: 3}, c, recs
}

// wrongRecords is, by what is wrong, records that are not ok on a map, for each clause of the chapter by itself; they are near to those that fit in a cell with noughts and the walker 4.
func wrongRecords(m impl.PlcMap) map[string]impl.LogRec {
	order := impl.OrdOrder{Who: 4, Seq: 1, Kind: impl.OrdRest}
	parcel := impl.PclParcel{N: 0, Kind: impl.PclCoins, Coins: 3}
	far := impl.PclParcel{N: 0, Kind: impl.PclWalker, Walker: impl.WlkWalker{Id: 2, At: m.Cells * m.Width}}
	return map[string]impl.LogRec{
		"nothing":                   {},
		"no Kind, an order":         {Order: order},
		"no Kind, a parcel":         {Parcel: parcel},
		"no Kind, a number":         {N: 1},
		"past the Kinds":            {Kind: 4, Order: order},
		"past the Kinds, a number":  {Kind: 4, N: 1},
		"below the Kinds":           {Kind: -1, Order: order},
		"an order that is nothing":  {Kind: 1},
		"an order that is not ok":   didOf(impl.OrdOrder{Who: 4, Seq: 1, Kind: impl.OrdRest, N: 1}),
		"an order of nobody":        restOf(0, 1),
		"an order past the walkers": restOf(10, 1),
		"an order without a number": restOf(4, 0),
		"an order past the numbers": restOf(4, 901),
		"an order and a side":       {Kind: 1, Order: order, Side: 1},
		"an order and no side":      {Kind: 1, Order: order, Side: -1},
		"an order and a parcel":     {Kind: 1, Order: order, Parcel: parcel},
		"an order, half a parcel":   {Kind: 1, Order: order, Parcel: impl.PclParcel{N: 1}},
		"an order and a number":     {Kind: 1, Order: order, N: 1},
		"a parcel that is nothing":  {Kind: 2},
		"a parcel that is not ok":   cameFrom(0, impl.PclParcel{N: 0, Kind: impl.PclCoins, Coins: 10}),
		"a parcel past the numbers": cameFrom(0, impl.PclParcel{N: 5000, Kind: impl.PclCoins, Coins: 1}),
		"a parcel past the map":     cameFrom(0, far),
		"a parcel from side -1":     cameFrom(-1, parcel),
		"a parcel from side 2":      cameFrom(2, parcel),
		"a parcel and an order":     {Kind: 2, Parcel: parcel, Order: order},
		"a parcel, half an order":   {Kind: 2, Parcel: parcel, Order: impl.OrdOrder{To: 1}},
		"a parcel and a number":     {Kind: 2, Parcel: parcel, N: 1},
		"none have come":            ackOf(1, 0),
		"fewer than none":           ackOf(1, -1),
		"more than there can be":    ackOf(1, 5001),
		"come on side -1":           ackOf(-1, 1),
		"come on side 2":            ackOf(2, 1),
		"come, and an order":        {Kind: 3, N: 1, Order: order},
		"come, and half an order":   {Kind: 3, N: 1, Order: impl.OrdOrder{Seq: 1}},
		"come, and a parcel":        {Kind: 3, N: 1, Parcel: parcel},
		"come, and half a parcel":   {Kind: 3, N: 1, Parcel: impl.PclParcel{Walker: impl.WlkWalker{Last: 1}}},
	}
}

// isNoStore is whether a store is the zero value, all lists empty.
func isNoStore(s impl.StoStore) bool {
	return sameStore(s, impl.StoStore{})
}

// askFold asks that records are folded as the words say.
func askFold(t *testing.T, m impl.PlcMap, c impl.CllCell, recs []impl.LogRec) (impl.CllCell, int) {
	t.Helper()
	got, count := impl.LogFold(m, c, recs)
	want, wantCount := foldPlainly(m, c, recs)
	if count != wantCount || !sameCell(got, want) {
		t.Fatalf("LogFold(%v, %+v, %+v) is\n%+v, %d, not\n%+v, %d", m, c, recs, got, count, want, wantCount)
	}
	return got, count
}
