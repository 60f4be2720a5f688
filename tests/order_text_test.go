package tests

import (
	"fmt"
	"math/rand"
	"regexp"
	"strconv"
	"testing"

	"loop.example/landmarch/impl"
)

// orderForm is how the text of an order begins: Who, Seq, and behind them what is done.
var orderForm = regexp.MustCompile(`(?s)\A([1-9]) ([1-9][0-9]{0,2}) (.*)\z`)

// ordersByText is, for each text that is written behind Seq, the order with Seq 0, by its walker.
func ordersByText() map[int]map[string]impl.OrdOrder {
	orders := map[int]map[string]impl.OrdOrder{}
	for o, text := range everyDeed() {
		if orders[o.Who] == nil {
			orders[o.Who] = map[string]impl.OrdOrder{}
		}
		orders[o.Who][text] = o
	}
	return orders
}

// orderTexts is the texts of orders.
func orderTexts() textKind[impl.OrdOrder] {
	orders := ordersByText()
	plainly := func(s string) (impl.OrdOrder, bool) {
		found := orderForm.FindStringSubmatch(s)
		if found == nil {
			return impl.OrdOrder{}, false
		}
		who, _ := strconv.Atoi(found[1])
		seq, _ := strconv.Atoi(found[2])
		o, ok := orders[who][found[3]]
		if !ok || seq > 900 {
			return impl.OrdOrder{}, false
		}
		o.Seq = seq
		return o, true
	}
	return textKind[impl.OrdOrder]{"order", impl.OrdRead, impl.OrdText, plainly}
}

func TestP72EveryOrderIsReadBack(t *testing.T) {
	texts := orderTexts()
	for o, deed := range everyDeed() {
		for seq := 1; seq <= 900; seq++ {
			o.Seq = seq
			if !impl.OrdOk(o) {
				t.Fatalf("OrdOk(%+v) is false", o)
			}
			texts.askWritten(t, o, strconv.Itoa(o.Who)+" "+strconv.Itoa(seq)+" "+deed)
		}
	}
}

func TestP73NoTwoOrdersHaveOneText(t *testing.T) {
	orders := map[string]impl.OrdOrder{}
	for o := range everyDeed() {
		for seq := 1; seq <= 900; seq++ {
			o.Seq = seq
			s := impl.OrdText(o)
			other, taken := orders[s]
			if taken || s == "" {
				t.Fatalf("%+v has the text %q; so has %+v, %v", o, s, other, taken)
			}
			orders[s] = o
		}
	}
}

func TestP72TextsOfSomeOrders(t *testing.T) {
	texts := orderTexts()
	for s, o := range map[string]impl.OrdOrder{
		"1 2 step left":       {Who: 1, Seq: 2, Kind: impl.OrdStep, To: impl.PlcLeft},
		"9 900 step right":    {Who: 9, Seq: 900, Kind: impl.OrdStep, To: impl.PlcRight},
		"3 4 give 2 9":        {Who: 3, Seq: 4, Kind: impl.OrdGive, To: 2, N: 9},
		"1 1 drop 3":          {Who: 1, Seq: 1, Kind: impl.OrdDrop, N: 3},
		"1 10 pick 1":         {Who: 1, Seq: 10, Kind: impl.OrdPick, N: 1},
		"2 900 throw right 1": {Who: 2, Seq: 900, Kind: impl.OrdThrow, To: impl.PlcRight, N: 1},
		"2 100 throw left 9":  {Who: 2, Seq: 100, Kind: impl.OrdThrow, To: impl.PlcLeft, N: 9},
		"9 1 rest":            {Who: 9, Seq: 1, Kind: impl.OrdRest},
	} {
		texts.askWritten(t, o, s)
	}
}

func TestP72NearlyTextsOfOrders(t *testing.T) {
	texts := orderTexts()
	for _, s := range []string{
		"", " ", "  ", "   ", "1", "1 1", "1 1 ", "1 1  ", "rest", "1 rest", " 1 rest", "1  rest", "  rest",
		"0 1 rest", "10 1 rest", "1 0 rest", "1 901 rest", "1 1000 rest", "-1 1 rest", "1 -1 rest",
		"01 1 rest", "1 01 rest", "+1 1 rest", "1 +1 rest", "x 1 rest", "1 x rest", "1_0 1 rest", "1 1_0 rest", "0x1 1 rest",
		"18446744073709551617 1 rest", "1 18446744073709551617 rest", "9223372036854775808 1 rest",
		" 1 1 rest", "1 1 rest ", "1 1 rest\n", "1 1 rest\x00", "1  1 rest", "1 1  rest", "11 rest", "1 1rest", "1\t1 rest",
		"1 1 Rest", "1 1 REST", "1 1 rests", "1 1 res", "1 1 rest 0", "1 1 rest 1", "1 1 rest left", "1 1 rest 0 0", "1 1 rest 1 1 1",
		"1 1 step", "1 1 step ", "1 1 step 0", "1 1 step 1", "1 1 step Left", "1 1 step up", "1 1 step l", "1 1 step leftright", "1 1 step left right",
		"1 1 step left 0", "1 1 step left 1", "1 1 step left ", "1 1 step  left", "1 1 left", "1 1 step right 1 1 1",
		"1 1 give", "1 1 give 2", "1 1 give 2 ", "1 1 give 2 0", "1 1 give 2 10", "1 1 give 2 01", "1 1 give 02 1", "1 1 give 2 +1", "1 1 give 2 -1",
		"1 1 give 0 1", "1 1 give 10 1", "1 1 give 1 1", "9 1 give 9 9", "3 4 give 3 1", "1 1 give 2 1 1", "1 1 give left 1", "1 1 give  1",
		"1 1 drop", "1 1 drop ", "1 1 drop 0", "1 1 drop 10", "1 1 drop 01", "1 1 drop +1", "1 1 drop -1", "1 1 drop 1 1", "1 1 drop 0 1", "1 1 drop left 1", "1 1 drop x",
		"1 1 pick", "1 1 pick ", "1 1 pick 0", "1 1 pick 10", "1 1 pick 01", "1 1 pick +1", "1 1 pick -1", "1 1 pick 1 1", "1 1 pick 0 1", "1 1 pick right 1", "1 1 pick x",
		"1 1 throw", "1 1 throw left", "1 1 throw left ", "1 1 throw left 0", "1 1 throw left 10", "1 1 throw left 01", "1 1 throw left +1", "1 1 throw left -1",
		"1 1 throw 0 1", "1 1 throw 1", "1 1 throw up 1", "1 1 throw  1", "1 1 throw left 1 1", "1 1 throw 1 left", "1 1 throw left  1",
		"1 1 give 2 1e0", "1 1 give 2 18446744073709551617", "1 1 drop \u0661",
		"walker 1 at 2 coins 3 order 4 code 5", "1 coins 2", "step left", "ask 1 step left",
	} {
		texts.askNone(t, s)
	}
}

func TestP72TextsOfOrdersWithOneByteTurned(t *testing.T) {
	texts := orderTexts()
	for _, s := range []string{
		"1 2 step left", "9 900 step right", "3 4 give 2 9", "1 89 drop 3", "2 10 pick 1", "2 900 throw right 1", "5 100 throw left 9", "9 1 rest",
	} {
		texts.askOneByteTurned(t, s)
		texts.askManyBytes(t, s)
	}
}

func TestP72TextsOfAnyBytesAreOrders(t *testing.T) {
	texts := orderTexts()
	words := []string{"step", "give", "drop", "pick", "throw", "rest", "left", "right", "2", "3", "900", "901"}
	texts.askAnyBytes(t, 21, words)
	r := rand.New(rand.NewSource(22))
	for range 50000 {
		s := fmt.Sprintf("%d %d", r.Intn(11), r.Intn(1000))
		for range r.Intn(4) {
			s += " " + words[r.Intn(len(words))]
		}
		texts.askRead(t, s)
	}
}
