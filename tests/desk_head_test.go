package tests

import (
	"fmt"
	"math/rand"
	"slices"
	"strconv"
	"strings"
	"testing"

	"loop.example/landmarch/impl"
)

// headLists is walkers with which heads go on: none, one, several and all, at the ends of their bounds.
func headLists(m impl.PlcMap) [][]impl.WlkWalker {
	last := m.Cells*m.Width - 1
	return [][]impl.WlkWalker{
		nil,
		{{Id: 1}},
		{{Id: 9, At: last, Coins: 99, Seq: 900, Last: 9}},
		{{Id: 4, At: 1, Coins: 12, Seq: 34, Last: 5}, {Id: 5, At: 1, Coins: 12, Seq: 34, Last: 5}},
		{{Id: 2, At: last}, {Id: 7, Coins: 3}, {Id: 8, At: 2, Seq: 1, Last: 2}},
		nineWalkers(last + 1),
	}
}

func TestP63Heads(t *testing.T) {
	for _, m := range okMaps() {
		for servers := 1; servers <= impl.ArbMaxServers; servers++ {
			for _, want := range headLists(m) {
				head := headOf(m, servers, want)
				if wrong := askHead(t, head); wrong != 0 {
					t.Errorf("of %q the line %d is wrong", head, wrong)
				}
				if got, n, list, _ := impl.DskHead(head); got != m || n != servers || !slices.Equal(list, want) {
					t.Errorf("DskHead(%q) is %v, %d, %v", head, got, n, list)
				}
			}
		}
	}
	m, servers, list, wrong := impl.DskHead([]string{"map 3 4", "servers 2", "walker 2 at 7 coins 9 order 3 code 1", "walker 6 at 11 coins 0 order 0 code 0"})
	want := []impl.WlkWalker{{Id: 2, At: 7, Coins: 9, Seq: 3, Last: 1}, {Id: 6, At: 11}}
	if m != (impl.PlcMap{Cells: 3, Width: 4}) || servers != 2 || !slices.Equal(list, want) || wrong != 0 {
		t.Error(m, servers, list, wrong)
	}
}

func TestP63HeadsOfFewLines(t *testing.T) {
	askWrongHead(t, nil, 1)
	askWrongHead(t, []string{}, 1)
	askWrongHead(t, []string{""}, 1)
	askWrongHead(t, []string{"map 3 3"}, 2)
	askWrongHead(t, []string{"map 3 3 "}, 1)
	askWrongHead(t, []string{"servers 2"}, 1)
	askWrongHead(t, []string{"walker 1 at 0 coins 0 order 0 code 0"}, 1)
	askWrongHead(t, []string{"map 3 3", ""}, 2)
	askWrongHead(t, []string{"servers 2", "map 3 3"}, 1)
	askWrongHead(t, []string{"map 3 3", "map 3 3"}, 2)
	askWrongHead(t, []string{"servers 2", "servers 2"}, 1)
	askWrongHead(t, []string{"map 3 3", "walker 1 at 0 coins 0 order 0 code 0"}, 2)
	askWrongHead(t, []string{"walker 1 at 0 coins 0 order 0 code 0", "servers 2"}, 1)
	askWrongHead(t, []string{"", ""}, 1)
	if wrong := askHead(t, []string{"map 3 3", "servers 2"}); wrong != 0 {
		t.Error(wrong)
	}
}

// notNumbers is words that are no numbers of a line, and none of them in any bounds.
var notNumbers = []string{"", "-1", "-2", "+2", "02", "002", "00002", "2x", "x", "two", "2.0", "1e0", "0x2", "100000", "18446744073709551618", "2\n", "\t2", "\xff", "２"}

// wrongMapLines and wrongServersLines are lines that are no first or no second line of a head.
func wrongMapLines() []string {
	lines := []string{"", " ", "map", "map ", "map 2", "map 2 ", "map 2 2 ", " map 2 2", "map  2 2", "map 2  2", "map 2 2 2", "map 2 2 1 1 1", "map22", "map2 2", "map 22", "Map 2 2", "MAP 2 2", "maps 2 2", "ma 2 2", "2 2", "2 2 map", "map\t2 2", "map 2 2\n", "map 2 2\x00"}
	for _, word := range notNumbers {
		lines = append(lines, "map "+word+" 2", "map 2 "+word)
	}
	for _, n := range []int{0, 1, 5, 9, 10, 99, 99999} {
		lines = append(lines, fmt.Sprintf("map %d 2", n))
	}
	for _, n := range []int{0, 1, 9, 10, 99, 99999} {
		lines = append(lines, fmt.Sprintf("map 2 %d", n))
	}
	for _, size := range []int{100, 101, 1000} {
		lines = append(lines, "map 2 2"+strings.Repeat(" ", size-7), "map "+strings.Repeat("0", size-7)+"2 2", "map 2 "+strings.Repeat("0", size-7)+"2")
	}
	return lines
}

func wrongServersLines() []string {
	lines := []string{"", " ", "servers", "servers ", "servers 2 ", " servers 2", "servers  2", "servers 2 2", "servers 2 1 1 1", "servers2", "Servers 2", "SERVERS 2", "server 2", "server 1", "serverss 2", "2", "2 servers", "servers\t2", "servers 2\n", "servers 2\x00"}
	for _, word := range notNumbers {
		lines = append(lines, "servers "+word)
	}
	for _, n := range []int{0, 4, 5, 9, 10, 30, 99999} {
		lines = append(lines, fmt.Sprintf("servers %d", n))
	}
	for _, size := range []int{100, 101, 1000} {
		lines = append(lines, "servers 2"+strings.Repeat(" ", size-9), "servers "+strings.Repeat("0", size-9)+"2")
	}
	return lines
}

// wrongWalkerLines is lines that are no walker at all.
func wrongWalkerLines() []string {
	right := "walker 5 at 1 coins 3 order 4 code 5"
	lines := []string{
		"", " ", "walker", "walker 5", "walker 5 at 1", right + " ", " " + right, right + "\n", right + " 1 1 1", right + " coming", strings.ToUpper(right), "W" + right[1:], right + right,
		"walker  5 at 1 coins 3 order 4 code 5", "walker 5 at 1 coins 3 order 4", "walker 5 at 1 coins 3 order 4 code", "walker 5 at 1 coins 3 code 4 order 5",
		"map 2 2", "servers 1", "grant 0 0", "bring 0", "cell 0 ground 0 air 0 0",
		"walker 0 at 1 coins 3 order 4 code 5", "walker 10 at 1 coins 3 order 4 code 5", "walker 5 at 32 coins 3 order 4 code 5", "walker 5 at 1 coins 100 order 4 code 5",
		"walker 5 at 1 coins 3 order 901 code 5", "walker 5 at 1 coins 3 order 4 code 10",
		right + strings.Repeat(" ", 64), right + strings.Repeat(" ", 65), strings.Repeat("x", 100), strings.Repeat("x", 101),
	}
	for _, word := range append([]string{"05", "+5", "-5"}, notNumbers...) {
		for _, form := range []string{"walker %s at 1 coins 3 order 4 code 5", "walker 5 at %s coins 3 order 4 code 5", "walker 5 at 1 coins %s order 4 code 5", "walker 5 at 1 coins 3 order %s code 5", "walker 5 at 1 coins 3 order 4 code %s"} {
			lines = append(lines, fmt.Sprintf(form, word))
		}
	}
	return lines
}

// wrongLines is lines that are wrong at a place of a head.
func wrongLines(place int) []string {
	switch place {
	case 0:
		return wrongMapLines()
	case 1:
		return wrongServersLines()
	}
	return wrongWalkerLines()
}

// rightHead is a head in which the numbers of walkers leave room between.
func rightHead() []string {
	return []string{
		"map 4 8", "servers 3",
		"walker 1 at 31 coins 0 order 0 code 0", "walker 3 at 7 coins 99 order 900 code 9", "walker 5 at 8 coins 1 order 2 code 3", "walker 8 at 0 coins 10 order 20 code 1",
	}
}

// Each line of a head wrong by itself, in every way; alone, with right lines behind it, and with another wrong one behind it.
func TestP63EachLineWrong(t *testing.T) {
	right := rightHead()
	if wrong := askHead(t, right); wrong != 0 {
		t.Fatalf("of the test's own head the line %d is wrong", wrong)
	}
	for place := range right {
		for _, line := range wrongLines(place) {
			head := slices.Clone(right)
			head[place] = line
			askWrongHead(t, head, place+1)
			askWrongHead(t, head[:place+1], place+1)
			for other := place + 1; other < len(head); other++ {
				two := slices.Clone(head)
				two[other] = wrongLines(other)[len(line)%7]
				askWrongHead(t, two, place+1)
			}
		}
	}
	for _, line := range wrongWalkerLines() {
		askWrongHead(t, append(rightHead(), line), 7)
	}
}

// Each byte of a head's first lines turned.
func TestP63HeadsWithOneByteTurned(t *testing.T) {
	for place, line := range []string{"map 3 4", "servers 2", "walker 5 at 11 coins 3 order 4 code 5"} {
		for i := 0; i <= len(line); i++ {
			for b := range 256 {
				with := string([]byte{byte(b)})
				head := []string{"map 3 4", "servers 2", "walker 5 at 11 coins 3 order 4 code 5", "walker 7 at 11 coins 3 order 4 code 5"}
				head[place] = line[:i] + with + line[i:]
				askHead(t, head)
				if i < len(line) {
					head[place] = line[:i] + with + line[i+1:]
					askHead(t, head)
				}
			}
		}
	}
}

// Each number of a head at its bounds and around them.
func TestP63NumbersOfHeads(t *testing.T) {
	right := 0
	for cells := range 12 {
		for width := range 12 {
			for servers := range 6 {
				head := headOf(impl.PlcMap{Cells: cells, Width: width}, servers, []impl.WlkWalker{{Id: 3, At: cells*width - 1}})
				want := 0
				switch {
				case cells < 2 || cells > 4 || width < 2 || width > 8:
					want = 1
				case servers < 1 || servers > 3:
					want = 2
				default:
					right++
				}
				if got := askHead(t, head); got != want {
					t.Errorf("of %q the line %d is wrong, not %d", head, got, want)
				}
			}
		}
	}
	if right != 3*7*3 {
		t.Errorf("%d heads are right", right)
	}
	for _, n := range lineNumbers {
		for _, form := range []string{"map %d 2", "map 2 %d"} {
			askHead(t, []string{fmt.Sprintf(form, n), "servers 1"})
		}
		askHead(t, []string{"map 2 2", fmt.Sprintf("servers %d", n)})
	}
}

// A walker at a place that the map does not have is wrong, whatever other map has it.
func TestP63WalkersAtNoPlace(t *testing.T) {
	for _, m := range okMaps() {
		places := m.Cells * m.Width
		for at := range 34 {
			head := headOf(m, 1, []impl.WlkWalker{{Id: 2}, {Id: 4, At: at}, {Id: 6}})
			want := 0
			if at >= places {
				want = 4
			}
			if got := askHead(t, head); got != want {
				t.Errorf("of %q the line %d is wrong, not %d", head, got, want)
			}
		}
	}
}

// Walkers rise by their numbers: of one number, and with numbers that fall, the second one is wrong.
func TestP63WalkersThatDoNotRise(t *testing.T) {
	line := func(id int) string { return "walker " + strconv.Itoa(id) + " at 1 coins 3 order 4 code 5" }
	for a := 1; a <= 9; a++ {
		for b := 1; b <= 9; b++ {
			want := 0
			if b <= a {
				want = 4
			}
			if got := askHead(t, []string{"map 2 2", "servers 1", line(a), line(b)}); got != want {
				t.Errorf("behind the walker %d the walker %d: the line %d is wrong, not %d", a, b, got, want)
			}
			for c := 1; c <= 9; c++ {
				askHead(t, []string{"map 2 2", "servers 1", line(a), line(b), line(c)})
			}
		}
	}
	// Not alike but for their number, and not beside each other.
	askWrongHead(t, []string{"map 2 2", "servers 1", "walker 3 at 0 coins 1 order 0 code 0", "walker 3 at 3 coins 2 order 5 code 1"}, 4)
	askWrongHead(t, []string{"map 2 2", "servers 1", line(2), line(5), line(2)}, 5)
	askWrongHead(t, []string{"map 2 2", "servers 1", line(2), line(5), line(4)}, 5)
	askWrongHead(t, []string{"map 2 2", "servers 1", line(2), line(1), line(1)}, 4)
	askWrongHead(t, []string{"map 2 2", "servers 1", line(9), line(8), line(7), line(6)}, 4)
}

// As many walkers as there are numbers, and one more; DskMaxLines lines, and one more. As no more than nine walkers rise, no line behind the eleventh is right.
func TestP63HeadsOfManyLines(t *testing.T) {
	m := impl.PlcMap{Cells: 4, Width: 8}
	full := headOf(m, 3, nineWalkers(32))
	if wrong := askHead(t, full); wrong != 0 || len(full) != 11 {
		t.Fatalf("of %q the line %d is wrong", full, wrong)
	}
	for _, count := range []int{12, 399, 400, 401, 402, 800, 5000} {
		more := slices.Concat(full, slices.Repeat([]string{full[10]}, count-11))
		askWrongHead(t, more, 12)
		for _, place := range []int{0, 1, 2, 10} {
			head := slices.Clone(more)
			head[place] = "walker 9 at 1 coins 1 order 1"
			askWrongHead(t, head, place+1)
		}
		askWrongHead(t, make([]string, count), 1)
		askWrongHead(t, slices.Concat(full[:2], make([]string, count-2)), 3)
		askWrongHead(t, slices.Concat(full[:5], slices.Repeat([]string{full[4]}, count-5)), 6)
	}
}

// P63 of heads of any lines: what stands ahead of the line that is told is right by itself, and what stands behind it is not asked.
func TestP63AnyHeads(t *testing.T) {
	r := rand.New(rand.NewSource(471))
	told := map[int]int{}
	for range 40000 {
		m := okMaps()[r.Intn(21)]
		list := okWalkers9(r, m)
		head := headOf(m, 1+r.Intn(3), list)
		for range oneOf(r, 0, 1, 1, 2, 3) {
			switch place := r.Intn(len(head) + 1); {
			case place == len(head) || r.Intn(4) == 0:
				lines := wrongLines(r.Intn(3))
				head = slices.Insert(head, place, lines[r.Intn(len(lines))])
			case r.Intn(3) == 0:
				head = slices.Delete(head, place, place+1)
			case r.Intn(2) == 0:
				other := r.Intn(len(head))
				head[place], head[other] = head[other], head[place]
			default:
				lines := wrongLines(place)
				head[place] = lines[r.Intn(len(lines))]
			}
		}
		wrong := askHead(t, head)
		told[wrong]++
		if wrong == 0 {
			continue
		}
		want := 0
		if wrong <= 2 {
			want = wrong
		}
		if got := askHead(t, head[:wrong-1]); got != want {
			t.Fatalf("of %q the line %d is wrong, and ahead of it the line %d", head, wrong, got)
		}
		if wrong <= len(head) {
			askWrongHead(t, append(slices.Clone(head[:wrong]), "walker 9 at 0 coins 0 order 0 code 0", ""), wrong)
		}
	}
	for wrong := range 10 {
		if told[wrong] < 50 {
			t.Errorf("too few heads of which the line %d is wrong: %v", wrong, told)
		}
	}
}

// okWalkers9 is some walkers that are ok on a map, from none to nine.
func okWalkers9(r *rand.Rand, m impl.PlcMap) []impl.WlkWalker {
	var list []impl.WlkWalker
	for id := 1; id <= 9; id++ {
		if r.Intn(2) == 0 {
			list = append(list, impl.WlkWalker{Id: id, At: r.Intn(m.Cells * m.Width), Coins: r.Intn(100), Seq: r.Intn(901), Last: r.Intn(10)})
		}
	}
	return list
}
