package tests

import (
	"loop.example/landmarch/impl"
)

// Chapter 10 in the document's words, with its numbers written out: what the program is held against.

// messageOkPlainly is of any map, servers and message.
func messageOkPlainly(m impl.PlcMap, servers int, x impl.MsgMsg) bool {
	if !impl.PlcOk(m) || servers < 1 || servers > 3 || x.Cell < 0 || x.Cell >= m.Cells {
		return false
	}
	switch x.Kind {
	case 1, 2, 5, 6, 7:
		if x.To < 0 || x.To >= servers {
			return false
		}
	case 3, 4:
		if x.To != -1 {
			return false
		}
	default:
		return false
	}
	return hasOkPlainly(m, x) && elseNothingPlainly(m, x)
}

// hasOkPlainly is whether what a message has is ok.
func hasOkPlainly(m impl.PlcMap, x impl.MsgMsg) bool {
	switch x.Kind {
	case 1:
		return x.N >= 1 && x.N <= 900
	case 2, 4:
		return impl.OrdOk(x.Order)
	case 3:
		return impl.OrdOk(x.Order) && x.N >= 1 && x.N <= 9
	case 5:
		return parcelOkPlainly(m, x.Parcel)
	case 6:
		return x.N >= 1 && x.N <= 5000
	}
	return ghostOkPlainly(m, x.Ghost) && x.Ghost.From == besidePlainly(m, x.Cell, x.Side)
}

// elseNothingPlainly is whether there is a cell on Side, where it is named, and all else is 0 or nothing.
func elseNothingPlainly(m impl.PlcMap, x impl.MsgMsg) bool {
	if x.Kind >= 5 && besidePlainly(m, x.Cell, x.Side) == -1 || x.Kind < 5 && x.Side != 0 {
		return false
	}
	if x.Kind != 1 && x.Kind != 3 && x.Kind != 6 && x.N != 0 {
		return false
	}
	if x.Kind != 2 && x.Kind != 3 && x.Kind != 4 && x.Order != (impl.OrdOrder{}) {
		return false
	}
	return (x.Kind == 5 || x.Parcel == impl.PclParcel{}) && (x.Kind == 7 || x.Ghost == impl.GstGhost{})
}

func grantOf(to, cell, age int) impl.MsgMsg {
	return impl.MsgMsg{Kind: impl.MsgGrant, To: to, Cell: cell, N: age}
}

func askOf(to, cell int, o impl.OrdOrder) impl.MsgMsg {
	return impl.MsgMsg{Kind: impl.MsgAsk, To: to, Cell: cell, Order: o}
}

func toldOf(cell int, o impl.OrdOrder, code int) impl.MsgMsg {
	return impl.MsgMsg{Kind: impl.MsgTold, To: impl.MsgGate, Cell: cell, Order: o, N: code}
}

func awayOf(cell int, o impl.OrdOrder) impl.MsgMsg {
	return impl.MsgMsg{Kind: impl.MsgAway, To: impl.MsgGate, Cell: cell, Order: o}
}

func parcelOf(to, cell, side int, p impl.PclParcel) impl.MsgMsg {
	return impl.MsgMsg{Kind: impl.MsgParcel, To: to, Cell: cell, Side: side, Parcel: p}
}

func gotOf(to, cell, side, below int) impl.MsgMsg {
	return impl.MsgMsg{Kind: impl.MsgGot, To: to, Cell: cell, Side: side, N: below}
}

func showOf(to, cell, side int, g impl.GstGhost) impl.MsgMsg {
	return impl.MsgMsg{Kind: impl.MsgGhost, To: to, Cell: cell, Side: side, Ghost: g}
}
