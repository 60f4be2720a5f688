package tests

import (
	"fmt"
	"math/rand"
	"strconv"
	"strings"
	"testing"

	"loop.example/landmarch/impl"
)

// eventTexts is the lines of things that happen.
func eventTexts() textKind[impl.WldEvent] {
	return textKind[impl.WldEvent]{"event", impl.DskEvent, eventLine, newDeskReader().event}
}

// lineNumbers are numbers of a line, of one to five decimals.
var lineNumbers = []int{0, 1, 2, 3, 4, 9, 10, 39, 40, 99, 100, 901, 999, 1000, 9999, 10000, 12345, 99999}

// everyEvent is things that happen, with the line of each: all Kinds, with small and with great numbers, and every order.
func everyEvent() map[impl.WldEvent]string {
	lines := map[impl.WldEvent]string{}
	for word, kind := range map[string]int{
		"say": impl.WldSay, "bring": impl.WldBring, "lose": impl.WldLose, "twice": impl.WldTwice, "fall": impl.WldFall, "rise": impl.WldRise,
	} {
		for _, at := range lineNumbers {
			lines[impl.WldEvent{Kind: kind, At: at}] = fmt.Sprintf("%s %d", word, at)
		}
	}
	for _, a := range lineNumbers {
		for _, b := range lineNumbers {
			lines[impl.WldEvent{Kind: impl.WldGrant, At: a, To: b}] = fmt.Sprintf("grant %d %d", a, b)
			lines[impl.WldEvent{Kind: impl.WldTick, At: a, To: b}] = fmt.Sprintf("tick %d %d", a, b)
		}
	}
	for o, what := range everyDeed() {
		lines[impl.WldEvent{Kind: impl.WldAsk, At: o.Who, What: o.Kind, To: o.To, N: o.N}] = fmt.Sprintf("ask %d %s", o.Who, what)
	}
	return lines
}

func TestP62SomeLines(t *testing.T) {
	for line, want := range map[string]impl.WldEvent{
		"grant 0 2":           {Kind: impl.WldGrant, At: 0, To: 2},
		"grant 3 1":           {Kind: impl.WldGrant, At: 3, To: 1},
		"tick 0 2":            {Kind: impl.WldTick, At: 0, To: 2},
		"tick 2 3":            {Kind: impl.WldTick, At: 2, To: 3},
		"say 7":               {Kind: impl.WldSay, At: 7},
		"bring 0":             {Kind: impl.WldBring, At: 0},
		"lose 39":             {Kind: impl.WldLose, At: 39},
		"twice 12":            {Kind: impl.WldTwice, At: 12},
		"fall 1":              {Kind: impl.WldFall, At: 1},
		"rise 2":              {Kind: impl.WldRise, At: 2},
		"ask 1 step left":     {Kind: impl.WldAsk, At: 1, What: impl.OrdStep, To: impl.PlcLeft},
		"ask 9 step right":    {Kind: impl.WldAsk, At: 9, What: impl.OrdStep, To: impl.PlcRight},
		"ask 3 give 2 9":      {Kind: impl.WldAsk, At: 3, What: impl.OrdGive, To: 2, N: 9},
		"ask 2 give 3 1":      {Kind: impl.WldAsk, At: 2, What: impl.OrdGive, To: 3, N: 1},
		"ask 4 drop 5":        {Kind: impl.WldAsk, At: 4, What: impl.OrdDrop, N: 5},
		"ask 5 pick 4":        {Kind: impl.WldAsk, At: 5, What: impl.OrdPick, N: 4},
		"ask 6 throw left 8":  {Kind: impl.WldAsk, At: 6, What: impl.OrdThrow, To: impl.PlcLeft, N: 8},
		"ask 8 throw right 6": {Kind: impl.WldAsk, At: 8, What: impl.OrdThrow, To: impl.PlcRight, N: 6},
		"ask 7 rest":          {Kind: impl.WldAsk, At: 7, What: impl.OrdRest},
	} {
		if got, ok := impl.DskEvent(line); !ok || got != want {
			t.Errorf("DskEvent(%q) is %+v, %v, not %+v", line, got, ok, want)
		}
	}
}

// Each line is what the document says it is, and with more numbers behind it, or fewer, it is none.
func TestP62EveryLine(t *testing.T) {
	texts := eventTexts()
	for e, line := range everyEvent() {
		texts.askRead(t, line)
		if got, ok := impl.DskEvent(line); !ok || got != e {
			t.Fatalf("DskEvent(%q) is %+v, %v, not %+v", line, got, ok, e)
		}
		texts.askNone(t, line+" 1 1 1")
		texts.askNone(t, line+" 1 1")
		texts.askNone(t, line+" 1 1 1 1 1 1")
		texts.askRead(t, line+" 1")
		texts.askRead(t, line+" 0")
		texts.askRead(t, line[:strings.LastIndex(line, " ")])
	}
}

// P62 of any text at all, a line or not: beginnings of lines that three numbers would fill up, and any bytes.
func TestP62AnyTextWithNumbersBehindIt(t *testing.T) {
	texts := eventTexts()
	for _, s := range []string{
		"", " ", "grant", "tick", "say", "bring", "lose", "twice", "fall", "rise", "ask", "map", "servers", "walker", "cell", "done", "line", "head",
		"grant 1", "grant 1 1", "tick 1", "say 1", "ask 1", "ask 2", "ask 1 step", "ask 1 step left", "ask 2 give", "ask 2 give 1", "ask 1 give 2", "ask 1 drop", "ask 1 pick",
		"ask 1 throw", "ask 1 throw left", "ask 1 rest", "ask 1 1", "ask 1 1 give", "1", "1 1", "1 1 give", "grant ", "say ", "ask 1 drop ", "ask 2 give ",
		"walker 1 at 1 coins 1 order", "walker 1 at 1 coins 1 order 1 code", "map 2", "servers 1",
	} {
		texts.askNone(t, s+" 1 1 1")
	}
	r := rand.New(rand.NewSource(461))
	words := deskWords()
	for range 30000 {
		var some []string
		for range r.Intn(6) {
			some = append(some, words[r.Intn(len(words))])
		}
		bytes := make([]byte, r.Intn(40))
		r.Read(bytes)
		texts.askNone(t, strings.Join(some, " ")+" 1 1 1")
		texts.askNone(t, strings.Join(some, "")+" 1 1 1")
		texts.askNone(t, string(bytes)+" 1 1 1")
	}
}

// deskWords is all words of lines, and some of others.
func deskWords() []string {
	return []string{
		"grant", "tick", "say", "bring", "lose", "twice", "fall", "rise", "ask", "ask", "ask",
		"step", "give", "drop", "pick", "throw", "rest", "left", "right", "map", "servers", "walker", "at", "coins", "order", "code",
		"0", "1", "1", "2", "3", "9", "10", "99999", "100000", "00", "01", "-1", "+1", "",
	}
}

// numberPlaces is lines with a place for a number, and whether any number may stand there; at the others only some are an order's.
var numberPlaces = map[string]bool{
	"grant % 1": true, "grant 1 %": true, "tick % 1": true, "tick 1 %": true,
	"say %": true, "bring %": true, "lose %": true, "twice %": true, "fall %": true, "rise %": true,
	"ask % rest": false, "ask % step left": false, "ask % give 3 2": false, "ask 1 give % 2": false, "ask 1 give 2 %": false,
	"ask % drop 1": false, "ask 1 drop %": false, "ask 1 pick %": false, "ask 1 throw left %": false, "ask 1 throw right %": false,
}

func TestP62NumbersOfLines(t *testing.T) {
	texts := eventTexts()
	for place, free := range numberPlaces {
		at := func(word string) string { return strings.Replace(place, "%", word, 1) }
		for _, n := range lineNumbers {
			texts.askRead(t, at(strconv.Itoa(n)))
			if got, ok := impl.DskEvent(at(strconv.Itoa(n))); free && !ok {
				t.Errorf("DskEvent(%q) is %+v, %v", at(strconv.Itoa(n)), got, ok)
			}
		}
		for _, word := range []string{
			"", "100000", "123456", "999999", "1000000", "9999999999", "4294967297", "9223372036854775807", "9223372036854775808", "18446744073709551617", "-9223372036854775808",
			"00", "01", "02", "000", "001", "010", "00000", "00001", "000001", "0000001", "09999", "099999",
			"-0", "-1", "-2", "-99999", "+0", "+1", "+2", "+99999", "--1", "1-", "1+", "- 1", "+ 1",
			"1.0", "1.", ".1", "1e0", "1e1", "0x1", "0b1", "0o1", "1_0", "1,0", "x", "one", "left", "1x", "x1", "1\n", "\n1", "1\t", "\t1", "\r1", "1\x00", "\x001", "\xff", "１", "\u0661", "²", "1\u00a0",
		} {
			texts.askNone(t, at(word))
		}
		for n := range 1100 {
			texts.askRead(t, at(strconv.Itoa(n)))
		}
	}
}

// Numbers past what there is in any world are numbers; what an order has is in its bounds, and so is its walker.
func TestP62NumbersOutOfTheirBounds(t *testing.T) {
	texts := eventTexts()
	for _, line := range []string{
		"grant 4 0", "grant 0 3", "grant 99999 99999", "tick 3 0", "tick 0 4", "tick 99999 99999",
		"say 0", "say 10", "say 99999", "bring 40", "bring 99999", "lose 40", "lose 99999", "twice 40", "twice 99999", "fall 3", "fall 99999", "rise 3", "rise 99999",
	} {
		texts.askRead(t, line)
		if _, ok := impl.DskEvent(line); !ok {
			t.Errorf("DskEvent(%q) is none", line)
		}
	}
	for _, line := range []string{
		"ask 0 rest", "ask 10 rest", "ask 99999 rest", "ask 0 step left", "ask 10 give 1 1", "ask 11 drop 1",
		"ask 1 give 0 1", "ask 1 give 10 1", "ask 1 give 1 1", "ask 9 give 9 9", "ask 1 give 2 0", "ask 1 give 2 10", "ask 1 give 2 99999",
		"ask 1 drop 0", "ask 1 drop 10", "ask 1 pick 0", "ask 1 pick 10", "ask 1 throw left 0", "ask 1 throw left 10", "ask 1 throw right 0", "ask 1 throw right 10",
	} {
		texts.askNone(t, line)
	}
	for who := 1; who <= 9; who++ {
		texts.askNone(t, fmt.Sprintf("ask %d give %d 1", who, who))
	}
}

// An order's text is asked without its Seq.
func TestP62OrdersWithTheirSeq(t *testing.T) {
	texts := eventTexts()
	for o, what := range everyDeed() {
		texts.askNone(t, "ask "+what)
		for _, seq := range []int{0, 1, 2, 9, 10, 899, 900, 901} {
			texts.askNone(t, fmt.Sprintf("ask %d %d %s", o.Who, seq, what))
			texts.askNone(t, fmt.Sprintf("ask %d %s %d", o.Who, what, seq)+" ")
			texts.askNone(t, fmt.Sprintf("%d %d %s", o.Who, seq, what))
		}
	}
}

func TestP62LinesThatAreNone(t *testing.T) {
	texts := eventTexts()
	for _, s := range []string{
		"", " ", "  ", "0", "1", "1 1", "1 2 3", "grant", "tick", "say", "bring", "lose", "twice", "fall", "rise", "ask",
		"grant ", "grant 0", "grant 0 ", "grant  0", "grant 0 0 ", "grant  0 0", "grant 0  0", " grant 0 0", "grant 0 0 0", "grant 0 0 0 0", "grant0 0", "grant 00", "grant 0 0\n", "grant\t0 0", "grant 0\t0", "grant 0,0", "grant a 0", "grant 0 a",
		"tick ", "tick 0", "tick 0 ", "tick 0 0 ", "tick  0 0", "tick 0  0", " tick 0 0", "tick 0 0 0", "tick 0 0\x00",
		"say ", "say  1", "say 1 ", " say 1", "say 1 1", "say 1 0", "say1", "say left", "say one",
		"bring ", "bring  0", "bring 0 ", " bring 0", "bring 0 0", "brin 0", "brings 0", "bringing 0", "ring 0",
		"lose ", "lose 0 0", "lose  0", "lose 0 ", " lose 0", "loose 0", "loses 0",
		"twice ", "twice 0 0", "twice  0", "twice 0 ", " twice 0", "twic 0",
		"fall ", "fall 0 0", "fall  0", "fall 0 ", " fall 0", "falls 0", "fallrise 0",
		"rise ", "rise 0 0", "rise  0", "rise 0 ", " rise 0", "rises 0",
		"Grant 0 0", "GRANT 0 0", "grAnt 0 0", "Tick 0 0", "Say 1", "SAY 1", "Bring 0", "Lose 0", "Twice 0", "Fall 0", "Rise 0", "Ask 1 rest", "ASK 1 rest",
		"ask 1", "ask 1 ", "ask  1 rest", "ask 1  rest", "ask 1 rest ", " ask 1 rest", "ask1 rest", "ask 1rest", "ask  rest", "ask rest", "ask rest 1", "ask 1 rest 1", "ask 1 rest 0", "ask 1 Rest", "ask 1 REST", "ask 1 rests", "ask 1 res",
		"ask 1 step", "ask 1 step ", "ask 1 step 0", "ask 1 step Left", "ask 1 step up", "ask 1 step left 1", "ask 1 step left right", "ask 1 step  left", "ask 1 left", "ask 1 Step left",
		"ask 1 give", "ask 1 give 2", "ask 1 give 2 ", "ask 1 give 2 3 4", "ask 1 give left 1", "ask 1 give  2 3", "ask 1 give 2  3",
		"ask 1 drop", "ask 1 drop ", "ask 1 drop 1 1", "ask 1 drop left", "ask 1 pick", "ask 1 pick ", "ask 1 pick 1 1", "ask 1 pick right",
		"ask 1 throw", "ask 1 throw left", "ask 1 throw left ", "ask 1 throw 1", "ask 1 throw 1 left", "ask 1 throw 0 1", "ask 1 throw left 1 1", "ask 1 throw Right 1",
		"ask 1 grant 0 0", "ask 1 say 1", "ask ask 1 rest", "ask 1 ask rest", "ask a rest", "ask 01 rest", "ask +1 rest", "ask -1 rest",
		"give 1 2", "step left", "rest", "drop 1", "1 rest", "do 1 1 rest", "ack left 1", "map 2 2", "servers 1", "walker 1 at 1 coins 1 order 1 code 1",
		"cell 0 ground 0 air 0 0", "done 1 1 code 1", "line 1", "head 1", "long", "calm 1", "run", "note 1 1 1", "0 0", "1 0 0", "3 1", "Kind 1",
		"grant 0 0\ngrant 0 0", "say 1\nsay 1", "say 1;say 1", "say 1 say 1", "bring 0 bring 0", "\"say 1\"", "`say 1`",
		"ｓay 1", "say\u00a01", "säy 1", "say 1\ufeff", "\ufeffsay 1",
	} {
		texts.askNone(t, s)
	}
}

// Each byte of a line left out, turned into each other one, and put ahead of each place; all beginnings and ends; and lines that grow past 100 bytes.
func TestP62LinesWithOneByteTurned(t *testing.T) {
	texts := eventTexts()
	for _, s := range []string{
		"grant 1 20", "tick 0 99999", "say 9", "bring 10", "lose 0", "twice 3999", "fall 2", "rise 1",
		"ask 1 step left", "ask 9 step right", "ask 3 give 2 9", "ask 1 drop 3", "ask 2 pick 1", "ask 2 throw right 1", "ask 5 throw left 9", "ask 9 rest",
	} {
		texts.askOneByteTurned(t, s)
		texts.askManyBytes(t, s)
	}
}

// Lines of 100 bytes and of 101, in every way in which a line could come to that: none of them is one.
func TestP62LinesOfManyBytes(t *testing.T) {
	texts := eventTexts()
	for _, line := range everyEvent() {
		for _, size := range []int{99, 100, 101, 102} {
			more := size - len(line)
			digit := strings.IndexAny(line, "0123456789")
			texts.askNone(t, line+strings.Repeat(" ", more))
			texts.askNone(t, strings.Repeat(" ", more)+line)
			texts.askNone(t, line+strings.Repeat("1", more))
			texts.askNone(t, line[:digit]+strings.Repeat("0", more)+line[digit:])
			texts.askNone(t, line+" "+strings.Repeat("x", more-1))
		}
	}
}

func TestP62LinesOfAnyBytes(t *testing.T) {
	texts := eventTexts()
	words := deskWords()
	texts.askAnyBytes(t, 462, words)
	r := rand.New(rand.NewSource(463))
	ones := 0
	for range 100000 {
		line := words[r.Intn(11)]
		for range 1 + r.Intn(3) {
			line += " " + words[r.Intn(len(words))]
		}
		texts.askRead(t, line)
		if _, ok := impl.DskEvent(line); ok {
			ones++
		}
	}
	if ones < 2000 {
		t.Errorf("but %d of the lines are ones", ones)
	}
}

// What is read from a line is the thing that happens, in a world.
func TestP62EachEventHappens(t *testing.T) {
	w := standingWorld()
	for e, line := range everyEvent() {
		got, ok := impl.DskEvent(line)
		if !ok {
			t.Fatalf("DskEvent(%q) is none", line)
		}
		if e.At > 40 || e.To > 40 {
			continue
		}
		if after, want := impl.WldStep(w, got), stepPlainly(w, e); !sameWorld(after, want) {
			t.Fatalf("behind %q there is%s", line, worldsApart(after, want))
		}
	}
}
