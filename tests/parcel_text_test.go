package tests

import (
	"fmt"
	"math/rand"
	"regexp"
	"strconv"
	"testing"

	"loop.example/landmarch/impl"
)

// parcelForm is how the text of a parcel is written; bounds are asked beside it, and the walker by its own form.
var parcelForm = regexp.MustCompile(`(?s)\A(0|[1-9][0-9]{0,3}) (?:coins ([1-9])|(walker .*))\z`)

// parcelPlainly reads a parcel by the form of its text.
func parcelPlainly(s string) (impl.PclParcel, bool) {
	found := parcelForm.FindStringSubmatch(s)
	if found == nil {
		return impl.PclParcel{}, false
	}
	n, _ := strconv.Atoi(found[1])
	if n > 4999 {
		return impl.PclParcel{}, false
	}
	if found[2] != "" {
		coins, _ := strconv.Atoi(found[2])
		return impl.PclParcel{N: n, Kind: 2, Coins: coins}, true
	}
	w, ok := readPlainly(found[3])
	if !ok {
		return impl.PclParcel{}, false
	}
	return impl.PclParcel{N: n, Kind: 1, Walker: w}, true
}

// parcelTexts is the texts of parcels.
var parcelTexts = textKind[impl.PclParcel]{"parcel", impl.PclRead, impl.PclText, parcelPlainly}

// parcelText is the document's words; empty, if a parcel has no text.
func parcelText(p impl.PclParcel) string {
	walker := impl.WlkText(p.Walker)
	switch {
	case p.N < 0 || p.N > 4999:
		return ""
	case p.Kind == 1 && walker != "" && p.Coins == 0:
		return fmt.Sprintf("%d %s", p.N, walker)
	case p.Kind == 2 && p.Walker == impl.WlkWalker{} && p.Coins >= 1 && p.Coins <= 9:
		return fmt.Sprintf("%d coins %d", p.N, p.Coins)
	}
	return ""
}

func TestP74TextsOfParcels(t *testing.T) {
	manyParcels(func(p impl.PclParcel) {
		parcelTexts.askWritten(t, p, parcelText(p))
	})
	for n := -3; n <= impl.PclMaxN+3; n++ {
		for _, p := range []impl.PclParcel{{N: n, Kind: 2, Coins: 1 + (n+9)%9}, {N: n, Kind: 1, Walker: impl.WlkWalker{Id: 1}}} {
			parcelTexts.askWritten(t, p, parcelText(p))
		}
	}
}

func TestP74TextsOfSomeParcels(t *testing.T) {
	for s, p := range map[string]impl.PclParcel{
		"4 coins 2":                              {N: 4, Kind: impl.PclCoins, Coins: 2},
		"0 coins 1":                              {N: 0, Kind: impl.PclCoins, Coins: 1},
		"4999 coins 9":                           {N: 4999, Kind: impl.PclCoins, Coins: 9},
		"0 walker 1 at 0 coins 0 order 0 code 0": {N: 0, Kind: impl.PclWalker, Walker: impl.WlkWalker{Id: 1}},
		"4999 walker 9 at 31 coins 99 order 900 code 9": {N: 4999, Kind: impl.PclWalker, Walker: impl.WlkWalker{Id: 9, At: 31, Coins: 99, Seq: 900, Last: 9}},
	} {
		parcelTexts.askWritten(t, p, s)
	}
}

func TestP74ParcelsWithoutAText(t *testing.T) {
	w := impl.WlkWalker{Id: 1, At: 3}
	for _, p := range []impl.PclParcel{
		{}, {N: 5}, {Kind: impl.PclWalker}, {Kind: impl.PclCoins},
		{N: -1, Kind: impl.PclCoins, Coins: 1}, {N: impl.PclMaxN, Kind: impl.PclCoins, Coins: 1},
		{N: -1, Kind: impl.PclWalker, Walker: w}, {N: impl.PclMaxN, Kind: impl.PclWalker, Walker: w},
		{Kind: impl.PclCoins, Coins: -1}, {Kind: impl.PclCoins, Coins: impl.OrdMaxN + 1},
		{Kind: impl.PclCoins, Coins: 1, Walker: w}, {Kind: impl.PclCoins, Coins: 1, Walker: impl.WlkWalker{At: 1}},
		{Kind: impl.PclWalker, Walker: w, Coins: 1}, {Kind: impl.PclWalker, Walker: w, Coins: -1},
		{Kind: impl.PclWalker, Walker: impl.WlkWalker{Id: 1, At: 32}}, {Kind: impl.PclWalker, Walker: impl.WlkWalker{Id: 10}},
		{Kind: 0, Walker: w}, {Kind: 3, Walker: w}, {Kind: 0, Coins: 1}, {Kind: 3, Coins: 1}, {Kind: -1, Coins: 1},
	} {
		parcelTexts.askWritten(t, p, "")
	}
}

// Whatever is ok on some map has a text; a text asks for no map.
func TestP74ParcelsThatAreOkHaveAText(t *testing.T) {
	maps := append(okMaps(), badMaps()[:4]...)
	r := rand.New(rand.NewSource(41))
	for _, m := range okMaps() {
		for _, p := range okParcels(r, m, 200, 200) {
			if s := impl.PclText(p); s == "" || s != parcelText(p) {
				t.Fatalf("PclText(%+v) is %q", p, s)
			}
		}
	}
	manyParcels(func(p impl.PclParcel) {
		if impl.PclText(p) != "" {
			return
		}
		for _, m := range maps {
			if impl.PclOk(m, p) {
				t.Fatalf("%+v has no text, and is ok on %v", p, m)
			}
		}
	})
}

func TestP74NearlyTextsOfParcels(t *testing.T) {
	for _, s := range []string{
		"", " ", "  ", "0", "0 ", "4", "4 coins", "4 coins ", "coins 2", " coins 2", "4  coins 2", "4 coins  2", "4coins 2", "4 coins2",
		"4 coins 0", "4 coins 10", "4 coins 02", "4 coins +2", "4 coins -2", "4 coins x", "4 coins 2 ", " 4 coins 2", "4 coins 2\n", "4 coins 2\x00",
		"4 coins 2 1 1 1", "4 coins 2 2", "4 coin 2", "4 Coins 2", "4 coins\t2", "4\tcoins 2", "4 coins 2coins 2", "4 coins coins 2",
		"04 coins 2", "+4 coins 2", "-4 coins 2", "-0 coins 2", "00 coins 2", "x coins 2", "5000 coins 2", "50000 coins 2", "-1 coins 2", "4_0 coins 2", "0x4 coins 2",
		"18446744073709551620 coins 2", "4 coins 18446744073709551618", "9223372036854775808 coins 2",
		"walker 1 at 2 coins 3 order 4 code 5", " walker 1 at 2 coins 3 order 4 code 5", "7 walker", "7 walker ", "7 walker 1",
		"7  walker 1 at 2 coins 3 order 4 code 5", " 7 walker 1 at 2 coins 3 order 4 code 5", "7 walker 1 at 2 coins 3 order 4 code 5 ",
		"07 walker 1 at 2 coins 3 order 4 code 5", "+7 walker 1 at 2 coins 3 order 4 code 5", "-7 walker 1 at 2 coins 3 order 4 code 5",
		"5000 walker 1 at 2 coins 3 order 4 code 5", "7walker 1 at 2 coins 3 order 4 code 5", "7 7 walker 1 at 2 coins 3 order 4 code 5",
		"7 walker 0 at 2 coins 3 order 4 code 5", "7 walker 10 at 2 coins 3 order 4 code 5", "7 walker 1 at 32 coins 3 order 4 code 5",
		"7 walker 1 at 2 coins 100 order 4 code 5", "7 walker 1 at 2 coins 3 order 901 code 5", "7 walker 1 at 2 coins 3 order 4 code 10",
		"7 walker 01 at 2 coins 3 order 4 code 5", "7 walker 1 at 2 coins 3 order 4 code 5 coins 2", "7 coins 2 walker 1 at 2 coins 3 order 4 code 5",
		"7 Walker 1 at 2 coins 3 order 4 code 5", "7 walker 1 at 2 coins 3 order 4 code 5 coming", "1 1 rest", "7 1 1 drop 2",
	} {
		parcelTexts.askNone(t, s)
	}
}

func TestP74TextsOfParcelsWithOneByteTurned(t *testing.T) {
	for _, s := range []string{
		"4 coins 2", "0 coins 1", "4999 coins 9", "1000 coins 5",
		"0 walker 1 at 0 coins 0 order 0 code 0", "4999 walker 9 at 31 coins 99 order 900 code 9", "10 walker 5 at 10 coins 10 order 89 code 1",
	} {
		parcelTexts.askOneByteTurned(t, s)
		parcelTexts.askManyBytes(t, s)
	}
}

func TestP74TextsOfAnyBytesAreParcels(t *testing.T) {
	parcelTexts.askAnyBytes(t, 42, []string{"coins", "coins", "walker", "4999", "5000", "walker 1 at 2 coins 3 order 4 code 5"})
	r := rand.New(rand.NewSource(43))
	for range 20000 {
		parcelTexts.askRead(t, fmt.Sprintf("%d coins %d", r.Intn(5500), r.Intn(12)))
		numbers := []any{r.Intn(5500), r.Intn(11), r.Intn(36), r.Intn(110), r.Intn(1000), r.Intn(11)}
		parcelTexts.askRead(t, fmt.Sprintf("%d walker %d at %d coins %d order %d code %d", numbers...))
	}
}
