package tests

import (
	"fmt"
	"math/rand"
	"regexp"
	"strconv"
	"strings"
	"testing"

	"loop.example/landmarch/impl"
)

// recordForm is how the text of a record is written; orders, parcels and numbers are read by forms of their own.
var recordForm = regexp.MustCompile(`(?s)\A(?:do (.*)|in (left|right) (.*)|ack (left|right) ([1-9][0-9]{0,3}))\z`)

// recordTexts is the texts of records.
func recordTexts() textKind[impl.LogRec] {
	orders := orderTexts()
	sides := map[string]int{"left": 0, "right": 1}
	plainly := func(s string) (impl.LogRec, bool) {
		found := recordForm.FindStringSubmatch(s)
		if found == nil {
			return impl.LogRec{}, false
		}
		o, order := orders.plainly(found[1])
		p, parcel := parcelPlainly(found[3])
		n, _ := strconv.Atoi(found[5])
		switch {
		case order:
			return impl.LogRec{Kind: 1, Order: o}, true
		case parcel:
			return impl.LogRec{Kind: 2, Side: sides[found[2]], Parcel: p}, true
		case n >= 1 && n <= 5000:
			return impl.LogRec{Kind: 3, Side: sides[found[4]], N: n}, true
		}
		return impl.LogRec{}, false
	}
	return textKind[impl.LogRec]{"record", impl.LogRead, impl.LogText, plainly}
}

// recordText is the document's words; empty, if a record has no text.
func recordText(r impl.LogRec) string {
	sides := map[int]string{0: "left", 1: "right"}
	side, order, parcel := sides[r.Side], impl.OrdText(r.Order), parcelText(r.Parcel)
	noOrder, noParcel := r.Order == impl.OrdOrder{}, r.Parcel == impl.PclParcel{}
	switch {
	case r.Kind == 1 && order != "" && r.Side == 0 && noParcel && r.N == 0:
		return "do " + order
	case r.Kind == 2 && side != "" && noOrder && parcel != "" && r.N == 0:
		return "in " + side + " " + parcel
	case r.Kind == 3 && side != "" && noOrder && noParcel && r.N >= 1 && r.N <= 5000:
		return fmt.Sprintf("ack %s %d", side, r.N)
	}
	return ""
}

func TestP41TextsOfSomeRecords(t *testing.T) {
	far := impl.WlkWalker{Id: 9, At: 31, Coins: 99, Seq: 900, Last: 9}
	for s, r := range map[string]impl.LogRec{
		"do 1 1 rest":            restOf(1, 1),
		"do 9 900 throw right 9": didOf(impl.OrdOrder{Who: 9, Seq: 900, Kind: impl.OrdThrow, To: 1, N: 9}),
		"do 3 4 give 2 9":        didOf(impl.OrdOrder{Who: 3, Seq: 4, Kind: impl.OrdGive, To: 2, N: 9}),
		"in left 3 coins 4":      cameFrom(0, impl.PclParcel{N: 3, Kind: impl.PclCoins, Coins: 4}),
		"in right 0 walker 1 at 0 coins 0 order 0 code 0":        cameFrom(1, impl.PclParcel{Kind: impl.PclWalker, Walker: impl.WlkWalker{Id: 1}}),
		"in right 4999 walker 9 at 31 coins 99 order 900 code 9": cameFrom(1, impl.PclParcel{N: 4999, Kind: impl.PclWalker, Walker: far}),
		"ack left 1":     ackOf(0, 1),
		"ack right 1":    ackOf(1, 1),
		"ack left 5000":  ackOf(0, 5000),
		"ack right 5000": ackOf(1, 5000),
	} {
		recordTexts().askWritten(t, r, s)
	}
}

func TestP41EveryOrderIsARecord(t *testing.T) {
	texts := recordTexts()
	for o := range everyDeed() {
		for _, seq := range numbersAtSeq() {
			o.Seq = seq
			texts.askWritten(t, didOf(o), recordText(didOf(o)))
		}
	}
}

func TestP41ParcelsAndNumbersAreRecords(t *testing.T) {
	texts := recordTexts()
	for _, side := range sidesAround {
		manyParcels(func(p impl.PclParcel) {
			if p.N >= -1 && p.N <= 1 || p.N >= 4999 && p.N <= 5001 {
				texts.askWritten(t, cameFrom(side, p), recordText(cameFrom(side, p)))
			}
		})
		for _, n := range numbersAround(0, impl.PclMaxN+1) {
			texts.askWritten(t, ackOf(side, n), recordText(ackOf(side, n)))
		}
	}
}

// A record that is ok on some map has a text; one has none that has what its kind does not have.
func TestP41RecordsWithoutAText(t *testing.T) {
	texts := recordTexts()
	m := impl.PlcMap{Cells: 4, Width: 8}
	for why, r := range wrongRecords(m) {
		if s := impl.LogText(r); s != "" {
			t.Errorf("%s: LogText(%+v) is %q", why, r, s)
		}
		texts.askWritten(t, r, "")
	}
	for _, kind := range numbersAround(1, 3) {
		for _, o := range []impl.OrdOrder{{}, {N: 1}, {Who: 2, Seq: 3, Kind: 6}} {
			for _, p := range []impl.PclParcel{{}, {N: 1}, {Kind: 2, Coins: 1}} {
				for _, side := range sidesAround {
					for _, n := range append([]int{-1, 0, 1, 5000, 5001}, farNumbers...) {
						r := impl.LogRec{Kind: kind, Order: o, Side: side, Parcel: p, N: n}
						texts.askWritten(t, r, recordText(r))
						if impl.LogOk(m, r) != (impl.LogText(r) != "") {
							t.Fatalf("LogOk(%+v) is %v, LogText %q", r, impl.LogOk(m, r), impl.LogText(r))
						}
					}
				}
			}
		}
	}
}

// A text asks for no map: a walker that has a text will do.
func TestP41LogsAsTexts(t *testing.T) {
	texts := recordTexts()
	eachLog(161, 20, 40, func(m impl.PlcMap, c impl.CllCell, recs []impl.LogRec) {
		for _, r := range recs {
			texts.askWritten(t, r, recordText(r))
			if impl.LogText(r) == "" {
				t.Fatalf("%+v has no text", r)
			}
		}
	})
	texts.askWritten(t, cameFrom(0, impl.PclParcel{Kind: 1, Walker: impl.WlkWalker{Id: 1, At: 31}}), "in left 0 walker 1 at 31 coins 0 order 0 code 0")
}

func TestP41NearlyTextsOfRecords(t *testing.T) {
	texts := recordTexts()
	for _, s := range []string{
		"", " ", "  ", "do", "do ", "in", "in ", "in left", "in left ", "in right ", "ack", "ack ", "ack left", "ack left ", "ack 1",
		"1 1 rest", "3 coins 4", "left 3 coins 4", "left 1", "do rest", "do 1 rest", "do 1 1", "do 1 1 ", "do  1 1 rest", "do 1  1 rest", " do 1 1 rest", "do 1 1 rest ",
		"do 1 1 rest\n", "Do 1 1 rest", "DO 1 1 rest", "do1 1 rest", "dodo 1 1 rest", "do do 1 1 rest", "do\t1 1 rest", "do 1 1 rest 1 1 1", "do 1 1 rest 0",
		"do 01 1 rest", "do 1 01 rest", "do +1 1 rest", "do 1 901 rest", "do 0 1 rest", "do 10 1 rest", "do 1 0 rest", "do left 1 1 rest", "do 1 1 give 1 1", "do 3 coins 4",
		"do 1 18446744073709551617 rest", "do -1 1 rest", "do 1 1 step up", "do 1 1 drop 10",
		"in 3 coins 4", "in up 3 coins 4", "in Left 3 coins 4", "in left  3 coins 4", "in  left 3 coins 4", "in left 3 coins 4 ", " in left 3 coins 4", "in left 3  coins 4",
		"in left 3 coins", "in left coins 4", "in left 03 coins 4", "in left +3 coins 4", "in left -3 coins 4", "in left 3 coins 04", "in left 3 coins 0", "in left 3 coins 10", "in left 5000 coins 4",
		"in left right 3 coins 4", "in left left 3 coins 4", "in leftright 3 coins 4", "in left 3 coins 4 1", "in left 3 coins 4 1 1 1", "in left 1 1 rest", "in 0 3 coins 4", "in 1 3 coins 4", "in -1 3 coins 4",
		"in left 0 walker 1 at 32 coins 0 order 0 code 0", "in left 0 walker 0 at 0 coins 0 order 0 code 0", "in left walker 1 at 0 coins 0 order 0 code 0", "in left 0 walker 1 at 0 coins 0 order 0 code 0 coming",
		"out left 3 coins 4", "inleft 3 coins 4", "ack left 0", "ack left 5001", "ack left 50000", "ack left 01", "ack left +1", "ack left -1", "ack left x", "ack left 1 ", "ack left 1 1", "ack left 1 1 1 1",
		"ack  left 1", "ack left  1", " ack left 1", "ack up 1", "ack 0 1", "ack Left 1", "Ack left 1", "ackleft 1", "ack left1", "ack left right 1", "ack left 1\n", "ack left 1\x00", "ack left 1_0", "ack left 0x1",
		"ack left 18446744073709551617", "ack left 9223372036854775808", "ack 1 left", "ack left 1e1", "ack left 3 coins 4", "ack left \u0661", "ack right", "got left 1",
	} {
		texts.askNone(t, s)
	}
}

func TestP41TextsOfRecordsWithOneByteTurned(t *testing.T) {
	texts := recordTexts()
	for _, s := range []string{
		"do 1 1 rest", "do 9 900 throw right 9", "do 3 4 give 2 9", "do 1 89 step left", "in left 3 coins 4", "in right 4999 coins 1",
		"in right 0 walker 1 at 0 coins 0 order 0 code 0", "in left 4999 walker 9 at 31 coins 99 order 900 code 9", "ack left 1", "ack right 5000", "ack left 4999",
	} {
		texts.askOneByteTurned(t, s)
		texts.askManyBytes(t, s)
	}
}

func TestP41TextsOfAnyBytesAreRecords(t *testing.T) {
	texts := recordTexts()
	words := []string{"do", "in", "ack", "left", "right", "coins", "rest", "step left", "1 1 rest", "3 coins 4", "5000", "5001", "0 walker 1 at 0 coins 0 order 0 code 0"}
	texts.askAnyBytes(t, 162, words)
	r := rand.New(rand.NewSource(163))
	for range 30000 {
		s := []string{"do", "in", "ack"}[r.Intn(3)]
		for range r.Intn(5) {
			s += " " + words[r.Intn(len(words))]
		}
		texts.askRead(t, s)
		texts.askRead(t, fmt.Sprintf("ack %s %d", []string{"left", "right", "up", ""}[r.Intn(4)], r.Intn(6000)-100))
	}
}

// Texts of 100 bytes and of 101: no record has so long a text, however it is filled.
func TestP41TextsOfAHundredBytes(t *testing.T) {
	texts := recordTexts()
	for _, size := range []int{99, 100, 101, 102} {
		for _, s := range []string{"do 1 1 rest", "in left 3 coins 4", "ack left 1"} {
			room := size - len(s)
			texts.askNone(t, s+strings.Repeat("0", room))
			texts.askNone(t, s+strings.Repeat(" ", room))
			texts.askNone(t, strings.Replace(s, " ", strings.Repeat(" ", 1+room), 1))
			texts.askNone(t, s[:len(s)-1]+strings.Repeat("0", room)+s[len(s)-1:])
		}
	}
}
