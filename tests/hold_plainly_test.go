package tests

import (
	"loop.example/landmarch/impl"
)

// Chapter 7 in the document's words, with its numbers written out: what the program is held against.

// holdOkPlainly is of a map that is ok.
func holdOkPlainly(m impl.PlcMap, h impl.HldHolder) bool {
	return h.Age >= 1 && h.Age <= 900 && h.Count >= 0 && h.Count <= 250 && cellOkPlainly(m, h.State)
}

// openPlainly is of a store that is ok, and any age.
func openPlainly(m impl.PlcMap, s impl.StoStore, age int) (impl.HldHolder, impl.StoStore, bool) {
	if age < 1 || age > 900 {
		return impl.HldHolder{}, impl.StoStore{}, false
	}
	after := cloneStore(s)
	if age < s.Age {
		return impl.HldHolder{}, after, false
	}
	after.Age = age
	state, _ := foldPlainly(m, s.Base, s.Recs)
	return impl.HldHolder{Age: age, Count: len(s.Recs), State: state}, after, true
}

// writePlainly is of a hold and a store that are ok, and any record.
func writePlainly(m impl.PlcMap, h impl.HldHolder, s impl.StoStore, r impl.LogRec) (impl.HldHolder, impl.StoStore, int, int) {
	after, written := appendPlainly(m, s, h.Age, h.Count, r)
	state, came, fits := applyPlainly(m, h.State, r)
	switch {
	case written != 1:
		return cloneHold(h), cloneStore(s), written, 0
	case !fits:
		return cloneHold(h), cloneStore(s), 4, 0
	}
	return impl.HldHolder{Age: h.Age, Count: h.Count + 1, State: state}, after, 1, came
}

// sameHold holds holds against each other; the empty list and the nil list are the same.
func sameHold(a, b impl.HldHolder) bool {
	return a.Age == b.Age && a.Count == b.Count && sameCell(a.State, b.State)
}

// isNoHold is whether a hold is the zero value, all lists empty.
func isNoHold(h impl.HldHolder) bool {
	return sameHold(h, impl.HldHolder{})
}

// cloneHold is the same hold in new memory.
func cloneHold(h impl.HldHolder) impl.HldHolder {
	return impl.HldHolder{Age: h.Age, Count: h.Count, State: cloneCell(h.State)}
}
