package tests

import (
	"cmp"
	"fmt"
	"math/rand"
	"slices"
	"strconv"
	"strings"
	"testing"

	"loop.example/g00025/impl"
)

// The second way: rows and columns are numbered lines that are taken apart, and what is left of an operation is told by
// where the numbers stand then.

func walkedGoodDo(d impl.Do) bool {
	c, u := d.Change, d.Turn
	last := lastAlong(u.Kind)
	set := d.Kind == 1 && u == impl.Turn{} && c.Row >= 1 && c.Row <= 1000 && c.Col >= 1 && c.Col <= 200 && len(c.Text) <= 2000
	set = set && !strings.ContainsFunc(c.Text, func(r rune) bool { return r < 32 || r > 126 })
	turn := d.Kind == 2 && c == impl.Change{} && (u.Kind == 1 || u.Kind == 2) && u.At >= 1 && u.At <= last && u.Many >= 1 && u.Many <= 100 && (!u.Delete || u.At-1 <= last-u.Many)
	return d == impl.Do{} || d.Who >= 0 && d.Who < 100 && (set || turn)
}

// walkedTold is a text after a turn.
func walkedTold(turn impl.Turn, stands []int, text string) string {
	f := impl.ReadFormula(text)
	if f.Err != 0 {
		return text
	}
	told := impl.FormulaText(changed(f.Nodes,
		func(r impl.Ref) (impl.Ref, bool) { return walkedRef(turn, stands, r) },
		func(a impl.Area) (impl.Area, bool) { return walkedArea(turn, stands, a) }))
	if told == "" {
		return text
	}
	return told
}

// walkedPerform is the sheet after an operation; false where there is none.
func walkedPerform(s impl.Sheet, d impl.Do) (impl.Sheet, bool) {
	switch {
	case !impl.GoodSheet(s) || !walkedGoodDo(d):
		return impl.Sheet{}, false
	case d.Kind == 0:
		return s, true
	case d.Kind == 1:
		after := withText(s, d.Change)
		if len(after.Cells) > 300 {
			return impl.Sheet{}, false
		}
		return after, true
	}
	stands := walkedLine(d.Turn)
	var out impl.Sheet
	for _, c := range s.Cells {
		if r, left := walkedRef(d.Turn, stands, cell(c.Row, c.Col)); left {
			out.Cells = append(out.Cells, impl.Cell{Row: r.Row, Col: r.Col, Text: walkedTold(d.Turn, stands, c.Text)})
		}
	}
	for _, n := range s.Names {
		out.Names = append(out.Names, impl.Named{Name: n.Name, Text: walkedTold(d.Turn, stands, n.Text)})
	}
	return out, true
}

// walkedWay does one operation after the other; false where a sheet on the way is not good.
func walkedWay(s impl.Sheet, list []impl.Do) (impl.Sheet, bool) {
	good := impl.GoodSheet(s)
	for _, d := range list {
		if good {
			s, good = walkedPerform(s, d)
		}
	}
	if !good {
		return impl.Sheet{}, false
	}
	return s, true
}

// lineAfter has the numbers of rows or columns in the order in which they stand after a turn, with -1 for new ones: one
// ahead of the first, as many as there may be, and so many behind them that none is pushed out.
func lineAfter(turn impl.Turn) []int {
	line := append([]int{0}, upTo(lastAlong(turn.Kind)+200)...)
	if turn.Delete {
		return slices.Delete(line, turn.At, turn.At+turn.Many)
	}
	return slices.Insert(line, turn.At, slices.Repeat([]int{-1}, turn.Many)...)
}

// walkedTurnAfter is what is left of a turn when another one of its kind is done first.
func walkedTurnAfter(d, by impl.Do) impl.Turn {
	out, line := d.Turn, lineAfter(by.Turn)
	if d.Turn.Delete {
		out.At, out.Many = 0, 0
		for i, n := range line {
			if n < d.Turn.At || n >= d.Turn.At+d.Turn.Many {
				continue
			}
			if out.At == 0 {
				out.At = i
			}
			out.Many = i - out.At + 1
		}
		return out
	}
	// What is put in stands between two. Where others come between these it keeps to the one that its Who says.
	ahead, behind := slices.Index(line, d.Turn.At-1), slices.Index(line, d.Turn.At)
	switch {
	case ahead < 0 && behind < 0:
		return impl.Turn{}
	case behind < 0 || ahead >= 0 && d.Who < by.Who:
		out.At = ahead + 1
	default:
		out.At = behind
	}
	return out
}

func walkedTransform(d, by impl.Do) impl.Do {
	if !walkedGoodDo(d) || !walkedGoodDo(by) {
		return impl.Do{}
	}
	out := d
	switch {
	case d.Kind == 1 && by.Kind == 1:
		if cell(d.Change.Row, d.Change.Col) == cell(by.Change.Row, by.Change.Col) && d.Who >= by.Who {
			return impl.Do{}
		}
	case d.Kind == 1 && by.Kind == 2:
		stands := walkedLine(by.Turn)
		r, left := walkedRef(by.Turn, stands, cell(d.Change.Row, d.Change.Col))
		if !left {
			return impl.Do{}
		}
		out.Change = impl.Change{Row: r.Row, Col: r.Col, Text: walkedTold(by.Turn, stands, d.Change.Text)}
	case d.Kind == 2 && by.Kind == 2 && d.Turn.Kind == by.Turn.Kind:
		out.Turn = walkedTurnAfter(d, by)
	}
	if !walkedGoodDo(out) {
		return impl.Do{}
	}
	return out
}

// walkedAll asks for each square of both lists by itself, from its two sides.
func walkedAll(list, by []impl.Do) ([]impl.Do, []impl.Do) {
	for _, d := range slices.Concat(list, by) {
		if !walkedGoodDo(d) {
			return nil, nil
		}
	}
	if len(list) > 20 || len(by) > 20 {
		return nil, nil
	}
	down, right := make([][]impl.Do, len(list)+1), make([][]impl.Do, len(list)+1)
	for i := range down {
		down[i], right[i] = make([]impl.Do, len(by)+1), make([]impl.Do, len(by)+1)
	}
	var p, q []impl.Do
	for j := range len(by) + 1 {
		for i := range len(list) + 1 {
			// down is the i-th of list behind j of by, right the j-th of by behind i of list.
			if i < len(list) {
				down[i][j] = list[i]
			}
			if j < len(by) {
				right[i][j] = by[j]
			}
			if i < len(list) && j > 0 {
				down[i][j] = walkedTransform(down[i][j-1], right[i][j-1])
			}
			if j < len(by) && i > 0 {
				right[i][j] = walkedTransform(right[i-1][j], down[i-1][j])
			}
		}
	}
	for i := range list {
		p = append(p, down[i][len(by)])
	}
	return p, append(q, right[len(list)][:len(by)]...)
}

func walkedConverged(s impl.Sheet, a, b []impl.Do) (impl.Sheet, impl.Sheet) {
	for _, d := range slices.Concat(a, b) {
		if !walkedGoodDo(d) {
			return impl.Sheet{}, impl.Sheet{}
		}
	}
	if len(a) > 20 || len(b) > 20 {
		return impl.Sheet{}, impl.Sheet{}
	}
	p, q := walkedAll(a, b)
	x, _ := walkedWay(s, slices.Concat(a, q))
	y, _ := walkedWay(s, slices.Concat(b, p))
	return x, y
}

func walkedInverse(s impl.Sheet, d impl.Do) []impl.Do {
	if !impl.GoodSheet(s) || !walkedGoodDo(d) || d.Kind == 0 {
		return nil
	}
	if d.Kind == 1 {
		return []impl.Do{setDo(d.Who, d.Change.Row, d.Change.Col, textAt(s, d.Change.Row, d.Change.Col))}
	}
	back := d
	back.Turn.Delete = !d.Turn.Delete
	after, good := walkedWay(s, []impl.Do{d, back})
	if !good {
		return nil
	}
	out := []impl.Do{back}
	for _, c := range s.Cells {
		if textAt(after, c.Row, c.Col) != c.Text {
			out = append(out, setDo(d.Who, c.Row, c.Col, c.Text))
		}
	}
	return out
}

// someTurns has all good turns at such places and of such numbers.
func someTurns(kind int, places, numbers []int) []impl.Turn {
	var out []impl.Turn
	for _, at := range places {
		for _, many := range numbers {
			for _, away := range []bool{false, true} {
				turn := impl.Turn{Kind: kind, At: at, Many: many, Delete: away}
				if walkedGoodDo(turnDo(1, turn)) {
					out = append(out, turn)
				}
			}
		}
	}
	return out
}

// TestAllTurnsByTurns holds each turn by each other one, at the first and the last places, against the second way.
func TestAllTurnsByTurns(t *testing.T) {
	for _, kind := range []int{impl.TurnRows, impl.TurnCols} {
		last := lastAlong(kind)
		for _, set := range [][2][]int{{upTo(9), upTo(5)}, {{1, 2, 3, 50, 99, 100, 101, 102}, {1, 2, 49, 50, 51, 98, 99, 100}}, {{last - 100, last - 99, last - 4, last - 3, last - 2, last - 1, last}, {1, 2, 3, 4, 99, 100}}} {
			turns := someTurns(kind, set[0], set[1])
			for _, turn := range turns {
				for _, by := range turns {
					for _, who := range [][2]int{{1, 2}, {2, 1}, {2, 2}} {
						d, other := turnDo(who[0], turn), turnDo(who[1], by)
						wantTransformed(t, d, other, walkedTransform(d, other))
					}
				}
			}
		}
	}
}

// webOf is a sheet of cells that refer to each other, without areas; each cell's text is its own.
func webOf(rows, cols int) impl.Sheet {
	s := sheetOf("M: =A1*$B$2+C3 | N: =M+B4")
	for row := 1; row <= rows; row++ {
		for col := 1; col <= cols; col++ {
			text := fmt.Sprintf("%d.%d", row, col)
			if (row+col)%3 > 0 {
				text = fmt.Sprintf("=%s+%d", impl.RefText(fixed(1+row*5%rows, 1+(row+col)%cols, fixings[row%4])), row*100+col)
			}
			s.Cells = append(s.Cells, impl.Cell{Row: row, Col: col, Text: text})
		}
	}
	return s
}

// checkOneOutcome asks that two lists of different people come to one sheet, the same as by the second way.
func checkOneOutcome(t *testing.T, s impl.Sheet, a, b []impl.Do) {
	t.Helper()
	x, y := impl.Converged(s, a, b)
	wantX, wantY := walkedConverged(s, a, b)
	if !sameSheets(x, y) || !sameSheets(x, wantX) || !sameSheets(y, wantY) || isZeroSheet(x) && len(s.Names) > 0 {
		t.Fatalf("%s\n by %s\n and %s\n is %s\n or %s\n want %s\n or %s", toldSheet(s), toldDos(a), toldDos(b), toldSheet(x), toldSheet(y), toldSheet(wantX), toldSheet(wantY))
	}
}

// TestAllPairsComeToTheSame has each of many small operations at the same time as each other one.
func TestAllPairsComeToTheSame(t *testing.T) {
	s := webOf(6, 3)
	var all []impl.Do
	for _, turn := range append(someTurns(impl.TurnRows, upTo(6), upTo(3)), someTurns(impl.TurnCols, upTo(3), upTo(2))...) {
		all = append(all, turnDo(1, turn))
	}
	for row := 1; row <= 6; row++ {
		all = append(all, setDo(1, row, 1, ""), setDo(1, row, 2, "x"), setDo(1, row, 1, "=a3+$B$"+strconv.Itoa(row)))
	}
	for part := range 8 {
		t.Run(strconv.Itoa(part), func(t *testing.T) {
			t.Parallel()
			for i, d := range all {
				for j, by := range all {
					if (i+j)%8 != part {
						continue
					}
					by.Who = 2
					if by.Kind == impl.DoSet && by.Change.Text != "" {
						by.Change.Text += "0"
					}
					checkOneOutcome(t, s, []impl.Do{d}, []impl.Do{by})
				}
			}
		})
	}
}

// noAreas is a sheet of random formulas, without areas.
func (c composer) noAreas() impl.Sheet {
	s := c.sheet()
	for i := range s.Cells {
		s.Cells[i].Text = strings.ReplaceAll(s.Cells[i].Text, ":", "+")
	}
	for i := range s.Names {
		s.Names[i].Text = strings.ReplaceAll(s.Names[i].Text, ":", "+")
	}
	return s
}

// side is what one does near the first rows and columns; never so much that anything comes near to the last ones.
func (c composer) side(who, most int) []impl.Do {
	var out []impl.Do
	for range c.Intn(most + 1) {
		row, col := 1+c.Intn(9), 1+c.Intn(5)
		switch c.Intn(9) {
		case 0, 1:
			out = append(out, turnDo(who, rowsIn(row, 1+c.Intn(4))))
		case 2, 3:
			out = append(out, turnDo(who, rowsOut(row, 1+c.Intn(4))))
		case 4:
			out = append(out, turnDo(who, colsIn(col, 1+c.Intn(2))))
		case 5:
			out = append(out, turnDo(who, colsOut(col, 1+c.Intn(2))))
		case 6:
			out = append(out, setDo(who, row, col, strings.ReplaceAll(c.text(1+c.Intn(2)), ":", "+")))
		case 7:
			out = append(out, setDo(who, row, col, c.pick("", "", "1", "x", "=a1", "= B3+$C$4", "=1+", "'=A1")))
		default:
			// Where the last one put rows in, if it did.
			if n := len(out); n > 0 && out[n-1].Turn.Kind == impl.TurnRows {
				row = out[n-1].Turn.At
			}
			out = append(out, setDo(who, row, col, "new "+strconv.Itoa(who)))
		}
		if c.Intn(20) == 0 {
			out = append(out, impl.Do{})
		}
	}
	return out[:min(len(out), 20)]
}

// TestRandomSidesComeToTheSame: what different people do at the same time comes to the same in either order.
func TestRandomSidesComeToTheSame(t *testing.T) {
	eachRandom(t, 80, func(t *testing.T, random *rand.Rand) {
		c := composer{Rand: random}
		s := c.noAreas()
		most := []int{3, 8, 20}[random.Intn(3)]
		who := random.Intn(99)
		a, b := c.side(who, most), c.side(who+1, most)
		if random.Intn(2) == 0 {
			a, b = b, a
		}
		p, q := walkedAll(a, b)
		wantLeft(t, []string{toldDos(a), toldDos(b)}, a, b, p, q)
		checkOneOutcome(t, s, a, b)
	})
}

// TestThreeComeToTheSame has a third one whose list is done by way of what the first two came to.
func TestThreeComeToTheSame(t *testing.T) {
	eachRandom(t, 60, func(t *testing.T, random *rand.Rand) {
		c := composer{Rand: random}
		s := c.noAreas()
		a, b, third := c.side(1, 4), c.side(2, 4), c.side(3, 6)
		_, restB := impl.TransformAll(a, b)
		checkOneOutcome(t, s, slices.Concat(a, restB), third)
	})
}

// TestRandomOperations holds operations on sheets of any formulas, also near the last places, against the second way,
// and takes them back.
func TestRandomOperations(t *testing.T) {
	eachRandom(t, 40, func(t *testing.T, random *rand.Rand) {
		c := composer{Rand: random}
		s := c.sheet()
		if random.Intn(3) == 0 {
			s = atTheEnd(s)
		}
		ops := c.side(random.Intn(100), 4)
		ops = append(ops, turnDo(random.Intn(100), randomTurn(random)), turnDo(random.Intn(100), randomTurn(random)))
		if n := len(s.Cells); n > 0 {
			at := s.Cells[random.Intn(n)]
			ops = append(ops, setDo(9, at.Row, at.Col, c.text(2)), turnDo(9, rowsOut(at.Row, 1)), turnDo(9, colsIn(at.Col, 1)))
		}
		for i, d := range ops {
			want, good := walkedPerform(s, d)
			wantPerformed(t, toldSheet(s), s, d, want)
			wantInverse(t, toldSheet(s), s, d, walkedInverse(s, d))
			if good && len(walkedInverse(s, d)) > 0 {
				checkBack(t, s, d)
			}
			for _, by := range ops[i:] {
				wantTransformed(t, d, by, walkedTransform(d, by))
				wantTransformed(t, by, d, walkedTransform(by, d))
			}
		}
	})
}

// givesCells is whether each formula of a sheet gives one cell alone.
func givesCells(s impl.Sheet) bool {
	for _, c := range s.Cells {
		if g := impl.EvalFormula(s, c.Row, c.Col, c.Text); c.Text[0] == '=' && len(g.Cells) != 1 {
			return false
		}
	}
	return true
}

// shownAfter is what was shown, with its places as they stand after a turn.
func shownAfter(list []impl.Shown, turn impl.Turn) []impl.Shown {
	stands := walkedLine(turn)
	var out []impl.Shown
	for _, s := range list {
		if r, left := walkedRef(turn, stands, cell(s.Row, s.Col)); left {
			s.Row, s.Col = r.Row, r.Col
			out = append(out, s)
		}
	}
	slices.SortFunc(out, func(a, b impl.Shown) int { return cmp.Or(cmp.Compare(a.Row, b.Row), cmp.Compare(a.Col, b.Col)) })
	return out
}

// TestRowsPutInChangeNothingShown: where no formula has an area and nothing is laid down.
func TestRowsPutInChangeNothingShown(t *testing.T) {
	asked := make([]int, 8)
	t.Run("random", func(t *testing.T) {
		for seed := range 8 {
			t.Run(strconv.Itoa(seed), func(t *testing.T) {
				t.Parallel()
				c := composer{Rand: rand.New(rand.NewSource(int64(seed)))}
				for range 250 {
					s := c.noAreas()
					if c.Intn(2) == 0 {
						s = webOf(1+c.Intn(6), 1+c.Intn(4))
					}
					if !givesCells(s) {
						continue
					}
					asked[seed]++
					turn := c.pickTurn(rowsIn(1+c.Intn(7), 1+c.Intn(100)), colsIn(1+c.Intn(6), 1+c.Intn(100)), rowsIn(1+c.Intn(3), 1), colsIn(1+c.Intn(3), 1))
					after := impl.Perform(s, turnDo(1, turn))
					got, want := impl.EvalSheet(after), shownAfter(impl.EvalSheet(s), turn)
					if !slices.Equal(got, want) {
						t.Errorf("%s by %v\n shows %s\n want  %s", toldSheet(s), turn, listMarks(got), listMarks(want))
					}
				}
			})
		}
	})
	for seed, n := range asked {
		if n < 100 {
			t.Errorf("%d: only %d sheets", seed, n)
		}
	}
}

func (c composer) pickTurn(list ...impl.Turn) impl.Turn { return list[c.Intn(len(list))] }

// anyDo may have any fields.
func anyDo(c composer) impl.Do {
	number := func() int {
		switch c.Intn(4) {
		case 0:
			return farNumbers[c.Intn(len(farNumbers))]
		case 1:
			return c.Intn(1003)
		}
		return c.Intn(6) - 1
	}
	d := impl.Do{}
	if list := c.side(c.Intn(3), 3); len(list) > 0 {
		d = list[0]
	}
	for range c.Intn(3) {
		switch c.Intn(9) {
		case 0:
			d.Kind = number()
		case 1:
			d.Who = number()
		case 2:
			d.Change.Row = number()
		case 3:
			d.Change.Col = number()
		case 4:
			d.Change.Text = c.pick(append(badTexts(), "", "x", "=A1")...)
		case 5:
			d.Turn.Kind = number()
		case 6:
			d.Turn.At = number()
		case 7:
			d.Turn.Many = number()
		case 8:
			d.Turn.Delete = !d.Turn.Delete
		}
	}
	return d
}

// TestAnyOperations: whatever they are given, the functions answer, and write nothing.
func TestAnyOperations(t *testing.T) {
	eachRandom(t, 150, func(t *testing.T, random *rand.Rand) {
		c := composer{Rand: random}
		s := c.sheet()
		if random.Intn(3) == 0 {
			s = anySheet(c)
		}
		d, by := anyDo(c), anyDo(c)
		if got := impl.GoodDo(d); got != walkedGoodDo(d) {
			t.Errorf("GoodDo(%.200v) = %v", d, got)
		}
		want, _ := walkedPerform(s, d)
		wantPerformed(t, "any", s, d, want)
		wantTransformed(t, d, by, walkedTransform(d, by))
		wantInverse(t, "any", s, d, walkedInverse(s, d))
		a, b := c.side(1, 5), c.side(2, 5)
		switch random.Intn(4) {
		case 0:
			a = append(a, d)
		case 1:
			b = slices.Insert(b, 0, by)
		case 2:
			a = slices.Repeat(append(a, impl.Do{}), 1+random.Intn(5))
		}
		p, q := walkedAll(a, b)
		wantLeft(t, []string{toldDos(a), toldDos(b)}, a, b, p, q)
		x, y := walkedConverged(s, a, b)
		wantConverged(t, []string{toldDos(a), toldDos(b)}, s, a, b, x, y)
	})
}
