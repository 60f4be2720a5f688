package tests

import (
	"slices"

	"loop.example/landmarch/impl"
)

// Chapter 6 in the document's words, with its numbers written out: what the program is held against.

func recordOkPlainly(m impl.PlcMap, r impl.LogRec) bool {
	order, parcel := r.Order != impl.OrdOrder{}, r.Parcel != impl.PclParcel{}
	switch {
	case !impl.PlcOk(m):
		return false
	case r.Kind == 1:
		return impl.OrdOk(r.Order) && r.Side == 0 && !parcel && r.N == 0
	case r.Side != 0 && r.Side != 1 || order:
		return false
	case r.Kind == 2:
		return parcelOkPlainly(m, r.Parcel) && r.N == 0
	case r.Kind == 3:
		return r.N >= 1 && r.N <= 5000 && !parcel
	}
	return false
}

// applyPlainly is of a cell that is ok, and any record.
func applyPlainly(m impl.PlcMap, c impl.CllCell, r impl.LogRec) (impl.CllCell, int, bool) {
	if !recordOkPlainly(m, r) {
		return impl.CllCell{}, 0, false
	}
	after, code, fits := impl.CllCell{}, 0, false
	switch r.Kind {
	case 1:
		if fits = freshPlainly(c, r.Order); fits {
			after, code = doPlainly(m, c, r.Order)
		}
	case 2:
		after, fits = inPlainly(m, c, r.Side, r.Parcel)
	case 3:
		after, fits = ackPlainly(m, c, r.Side, r.N)
	}
	if !fits {
		return cloneCell(c), 0, false
	}
	return after, code, true
}

// foldPlainly is of a cell that is ok, and any records.
func foldPlainly(m impl.PlcMap, c impl.CllCell, recs []impl.LogRec) (impl.CllCell, int) {
	if len(recs) > 250 {
		return impl.CllCell{}, 0
	}
	c = cloneCell(c)
	for i, r := range recs {
		after, _, fits := applyPlainly(m, c, r)
		if !fits {
			return c, i
		}
		c = after
	}
	return c, len(recs)
}

// appendPlainly is of a store that is ok.
func appendPlainly(m impl.PlcMap, s impl.StoStore, age, at int, r impl.LogRec) (impl.StoStore, int) {
	state, _ := foldPlainly(m, s.Base, s.Recs)
	_, _, fits := applyPlainly(m, state, r)
	s = cloneStore(s)
	switch {
	case age != s.Age:
		return s, 2
	case at != len(s.Recs) || len(s.Recs) == 250:
		return s, 3
	case !fits:
		return s, 4
	}
	s.Recs = append(s.Recs, r)
	return s, 1
}

// countPlainly is of any records.
func countPlainly(recs []impl.LogRec, who, seq int) int {
	count := 0
	for _, r := range recs {
		if r.Kind == 1 && r.Order.Who == who && r.Order.Seq == seq {
			count++
		}
	}
	return count
}

// sameStore holds stores against each other; the empty list and the nil list are the same.
func sameStore(a, b impl.StoStore) bool {
	return a.Age == b.Age && sameCell(a.Base, b.Base) && slices.Equal(a.Recs, b.Recs)
}

// cloneStore is the same store in new memory.
func cloneStore(s impl.StoStore) impl.StoStore {
	return impl.StoStore{Age: s.Age, Base: cloneCell(s.Base), Recs: slices.Clone(s.Recs)}
}
