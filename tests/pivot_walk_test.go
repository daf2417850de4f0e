package tests

import (
	"math/rand"
	"slices"
	"strconv"
	"testing"

	"loop.example/g00025/impl"
)

// The second way to pivots: a row is asked of each group that there is whether it is one of it, and of each cell of a
// pivot whether it counts there; two tables are joined row by row.

// keyAhead says whether keys stand ahead of others.
func keyAhead(a, b []impl.Value) bool {
	for i := range a {
		x, y := a[i], b[i]
		switch {
		case sameCells(x, y):
			continue
		case isBad(x) && isBad(y):
			return x.Text < y.Text
		}
		return sortsAhead(x, y, 1)
	}
	return false
}

func keysIn(g impl.Grid, row int, cols []int) []impl.Value {
	var out []impl.Value
	for _, col := range cols {
		out = append(out, rowOf(g, row)[col-1])
	}
	return out
}

// hasKeys: whether a row is in the group of these keys.
func hasKeys(g impl.Grid, row int, cols []int, keys []impl.Value) bool {
	return slices.EqualFunc(keysIn(g, row, cols), keys, sameCells)
}

func walkedOnce(g impl.Grid, cols []int) bool {
	met := map[int]int{}
	for _, col := range cols {
		met[col]++
		if col < 1 || col > g.Cols || met[col] > 1 {
			return false
		}
	}
	return true
}

func walkedGrouped(g impl.Grid, cols []int) []impl.Group {
	if !impl.GoodGrid(g) || len(cols) > 4 || !walkedOnce(g, cols) {
		return nil
	}
	var out []impl.Group
rows:
	for row := range g.Rows {
		keys := keysIn(g, row, cols)
		for i, group := range out {
			if hasKeys(g, row, cols, group.Keys) {
				out[i].Rows = append(out[i].Rows, row)
				continue rows
			}
		}
		at := len(out)
		for at > 0 && keyAhead(keys, out[at-1].Keys) {
			at--
		}
		out = slices.Insert(out, at, impl.Group{Keys: keys, Rows: []int{row}})
	}
	return out
}

func walkedFold(list []impl.Value, fold int) impl.Value {
	if fold < 1 || fold > 5 || len(list) > 2000 || slices.ContainsFunc(list, func(v impl.Value) bool { return !goodBySight(v) }) {
		return notThis
	}
	g := caught(func() impl.Grid {
		all := impl.Grid{Cells: list}
		var out impl.Value
		switch fold {
		case impl.FoldSum:
			out = added(numbersIn(all)...)
		case impl.FoldCount:
			empties := 0
			for _, v := range list {
				if v == empty {
					empties++
				}
			}
			out = countOf(len(list) - empties)
		case impl.FoldMean:
			out = mean(numbersIn(all))
		default:
			ranked := rankedBy(numbersIn(all))
			out = numVal("0")
			if len(ranked) > 0 {
				out = ranked[(len(ranked)-1)*(fold-impl.FoldMin)]
			}
		}
		return fullGrid(1, 1, out)
	})
	return g.Cells[0]
}

func walkedGood(g impl.Grid, p impl.Pivot) bool {
	if !impl.GoodGrid(g) || len(p.Rows) == 0 || len(p.Rows) > 3 || len(p.Cols) > 3 || len(p.Measures) == 0 || len(p.Measures) > 4 {
		return false
	}
	for _, m := range p.Measures {
		if m.Col < 1 || m.Col > g.Cols || m.Fold < 1 || m.Fold > 5 {
			return false
		}
	}
	return walkedOnce(g, append(slices.Clone(p.Rows), p.Cols...))
}

// walkedKeys are the keys of a side's groups; with totals keys last that no row is asked for, which is nil.
func walkedKeys(g impl.Grid, cols []int, totals bool) [][]impl.Value {
	var out [][]impl.Value
	for _, group := range walkedGrouped(g, cols) {
		out = append(out, append([]impl.Value{}, group.Keys...))
	}
	if totals && len(cols) > 0 {
		out = append(out, nil)
	}
	return out
}

// walkedMet is the fold of those rows that have both keys; an empty value where there is none.
func walkedMet(g impl.Grid, p impl.Pivot, down, right []impl.Value, m impl.Measure) impl.Value {
	var met []impl.Value
	for row, cells := range allRows(g) {
		if (down == nil || hasKeys(g, row, p.Rows, down)) && (right == nil || hasKeys(g, row, p.Cols, right)) {
			met = append(met, cells[m.Col-1])
		}
	}
	if len(met) == 0 {
		return empty
	}
	return walkedFold(met, m.Fold)
}

// keyOf is what is told of keys; of those that stand for all rows `Total` first, and nothing behind.
func keyOf(keys []impl.Value, i int) impl.Value {
	switch {
	case keys != nil:
		return keys[i]
	case i == 0:
		return wordsVal("Total")
	}
	return empty
}

func walkedPivot(g impl.Grid, p impl.Pivot) impl.Grid {
	if !walkedGood(g, p) {
		return impl.Grid{}
	}
	below, beside := walkedKeys(g, p.Rows, p.Totals), walkedKeys(g, p.Cols, p.Totals)
	if (len(p.Cols)+1+len(below))*(len(p.Rows)+len(beside)*len(p.Measures)) > 2000 {
		return impl.Grid{}
	}
	var rows [][]impl.Value
	line := func(ahead []impl.Value, cell func(right []impl.Value, m impl.Measure) impl.Value) {
		for _, right := range beside {
			for _, m := range p.Measures {
				ahead = append(ahead, cell(right, m))
			}
		}
		rows = append(rows, ahead)
	}
	for i := range p.Cols {
		line(make([]impl.Value, len(p.Rows)), func(right []impl.Value, _ impl.Measure) impl.Value { return keyOf(right, i) })
	}
	line(make([]impl.Value, len(p.Rows)), func(_ []impl.Value, m impl.Measure) impl.Value {
		return wordsVal(foldNames[m.Fold] + " " + strconv.Itoa(m.Col))
	})
	for _, down := range below {
		var ahead []impl.Value
		for i := range p.Rows {
			ahead = append(ahead, keyOf(down, i))
		}
		line(ahead, func(right []impl.Value, m impl.Measure) impl.Value { return walkedMet(g, p, down, right, m) })
	}
	return rowsGrid(rows...)
}

func walkedJoined(a, b impl.Grid, left, right int) impl.Grid {
	if !impl.GoodGrid(a) || !impl.GoodGrid(b) || left < 1 || left > a.Cols || right < 1 || right > b.Cols || b.Cols == 1 {
		return impl.Grid{}
	}
	var rows [][]impl.Value
	for _, x := range allRows(a) {
		for _, y := range allRows(b) {
			if v := x[left-1]; v != empty && sameCells(v, y[right-1]) {
				rows = append(rows, slices.Concat(x, y[:right-1], y[right:]))
			}
		}
	}
	if len(rows) == 0 || len(rows)*(a.Cols+b.Cols-1) > 2000 {
		return impl.Grid{}
	}
	return rowsGrid(rows...)
}

// checkEachOnce: groups have each row once, and no two of them the same keys.
func checkEachOnce(t *testing.T, g impl.Grid, cols []int, list []impl.Group) {
	t.Helper()
	var rows []int
	for i, group := range list {
		rows = append(rows, group.Rows...)
		for _, other := range list[:i] {
			if slices.EqualFunc(group.Keys, other.Keys, sameCells) {
				t.Errorf("%v has the keys %v twice", g, group.Keys)
			}
		}
		for _, row := range group.Rows {
			if !hasKeys(g, row, cols, group.Keys) {
				t.Errorf("row %d of %v in the group of %v", row, g, group.Keys)
			}
		}
	}
	slices.Sort(rows)
	if !slices.Equal(rows, slices.Compact(slices.Clone(rows))) || len(rows) != g.Rows {
		t.Errorf("%v of %v has the rows %v", cols, g, rows)
	}
}

func checkGrouped(t *testing.T, g impl.Grid, cols []int) {
	t.Helper()
	wantGroups(t, g, g, cols, groupMarks(walkedGrouped(g, cols)))
	if list := impl.GroupRows(g, cols); len(list) > 0 {
		checkEachOnce(t, g, cols, list)
	}
}

// TestGroupsOfSmallColumns: all columns of up to three cells of some values, as keys, as values and as tables.
func TestGroupsOfSmallColumns(t *testing.T) {
	values := []impl.Value{empty, numVal("0"), numVal("-1"), numVal("0.5"), wordsVal(""), wordsVal("a"), wordsVal("A"), wordsVal("0"), wordsVal("b"), yes, no, errVal("#N/A"), errVal("#REF!")}
	check := func(cells ...impl.Value) {
		g := impl.Grid{Rows: len(cells), Cols: 1, Cells: cells}
		checkGrouped(t, g, []int{1})
		checkGrouped(t, g, nil)
		for fold := range 7 {
			wantFold(t, cells, cells, fold, walkedFold(cells, fold))
		}
		both := impl.Grid{Rows: 2, Cols: 2, Cells: []impl.Value{cells[0], yes, cells[len(cells)-1], no}}
		for right := 1; right <= 2; right++ {
			wantJoined(t, cells, g, both, 1, right, gridMarks(walkedJoined(g, both, 1, right)))
		}
	}
	for _, a := range values {
		check(a)
		for _, b := range values {
			check(a, b)
			for _, c := range values {
				check(a, b, c)
			}
		}
	}
}

// TestKeysOfEveryKind: any two good values are keys of one group where they are the same, and of two otherwise.
func TestKeysOfEveryKind(t *testing.T) {
	all := goodValues()
	checkGrouped(t, impl.Grid{Rows: len(all), Cols: 1, Cells: all}, []int{1})
	for _, v := range all {
		for _, w := range all {
			g := impl.Grid{Rows: 2, Cols: 1, Cells: []impl.Value{v, w}}
			if got := len(impl.GroupRows(g, []int{1})) == 1; got != sameCells(v, w) {
				t.Errorf("%v and %v in one group: %v", v, w, got)
			}
			joined := impl.Joined(fullGrid(1, 1, v), fullGrid(1, 2, w), 1, 2)
			if got := joined.Rows == 1; got != (v != empty && sameCells(v, w)) || got && !slices.Equal(joined.Cells, []impl.Value{v, w}) {
				t.Errorf("%v and %v joined: %v", v, w, joined)
			}
		}
	}
}

func (c composer) likelyGrid(rows, cols int) impl.Grid {
	g := impl.Grid{Rows: 1 + c.Intn(rows), Cols: 1 + c.Intn(cols)}
	for range g.Rows * g.Cols {
		g.Cells = append(g.Cells, likely(c.Rand))
	}
	return g
}

// someCols are columns of a grid in any order, at times one twice or one that there is not.
func (c composer) someCols(cols, most int) []int {
	out := c.Perm(cols)
	for i := range out {
		out[i]++
	}
	out = out[:min(len(out), c.Intn(most+1))]
	if c.Intn(20) == 0 {
		out = append(out, c.Intn(cols+3)-1)
	}
	return out
}

func TestRandomGroups(t *testing.T) {
	eachRandom(t, 1500, func(t *testing.T, random *rand.Rand) {
		c := composer{Rand: random}
		g := c.likelyGrid(14, 6)
		checkGrouped(t, g, c.someCols(g.Cols, 5))
	})
}

func TestManyRandomGroups(t *testing.T) {
	eachRandom(t, 2, func(t *testing.T, random *rand.Rand) {
		c := composer{Rand: random}
		g := impl.Grid{Cols: 1 + random.Intn(6)}
		g.Rows = 2000/g.Cols - random.Intn(100)
		for range g.Rows * g.Cols {
			g.Cells = append(g.Cells, likely(random))
		}
		checkGrouped(t, g, c.someCols(g.Cols, 2))
	})
}

func TestRandomFolds(t *testing.T) {
	eachRandom(t, 3000, func(t *testing.T, random *rand.Rand) {
		var list []impl.Value
		for range random.Intn(8) {
			v := likely(random)
			switch random.Intn(30) {
			case 0:
				v = anyValue(random)
			case 1, 2, 3, 4, 5, 6, 7, 8:
				v = numOf(randomDec(random, 20))
			case 9, 10:
				v = numOf(randomDec(random, 320))
			case 11, 12, 13, 14, 15, 16, 17, 18, 19, 20:
				if isBad(v) {
					v = countOf(random.Intn(20))
				}
			}
			list = append(list, v)
		}
		fold := random.Intn(7)
		wantFold(t, list, list, fold, walkedFold(list, fold))
	})
}

func (c composer) pivot(cols int) impl.Pivot {
	order := c.someCols(cols, 7)
	many := min(len(order), 1+c.Intn(3))
	if c.Intn(20) == 0 {
		many = c.Intn(len(order) + 1)
	}
	p := impl.Pivot{Rows: order[:many], Cols: order[many:], Totals: c.Intn(2) == 0}
	if len(p.Cols) > 3 && c.Intn(10) > 0 {
		p.Cols = p.Cols[:c.Intn(4)]
	}
	for range 1 + c.Intn(4) {
		p.Measures = append(p.Measures, impl.Measure{Col: 1 + c.Intn(cols), Fold: 1 + c.Intn(5)})
	}
	switch c.Intn(60) {
	case 0:
		p.Measures = nil
	case 1:
		p.Measures = slices.Repeat(p.Measures, 2)
	case 2:
		p.Measures[0].Fold = c.Intn(9) - 1
	case 3:
		p.Measures[0].Col = c.Intn(cols+3) - 1
	}
	return p
}

func TestRandomPivots(t *testing.T) {
	eachRandom(t, 700, func(t *testing.T, random *rand.Rand) {
		c := composer{Rand: random}
		g := c.likelyGrid(12, 6)
		p := c.pivot(g.Cols)
		wantPivot(t, g, g, p, walkedGood(g, p), gridMarks(walkedPivot(g, p)))
	})
}

// TestRandomTotals: sums and counts of totals are those of their rows and columns, where the numbers are small.
func TestRandomTotals(t *testing.T) {
	eachRandom(t, 100, func(t *testing.T, random *rand.Rand) {
		g := impl.Grid{Rows: 1 + random.Intn(60), Cols: 3}
		for range g.Rows {
			g.Cells = append(g.Cells, countOf(random.Intn(5)), wordsVal(string(rune('a'+random.Intn(4)))), countOf(random.Intn(100)-50))
		}
		for fold := impl.FoldSum; fold <= impl.FoldCount; fold++ {
			got := impl.PivotGrid(g, impl.Pivot{Rows: []int{1}, Cols: []int{2}, Measures: []impl.Measure{{Col: 3, Fold: fold}}, Totals: true})
			for row := 2; row < got.Rows; row++ {
				line := rowOf(got, row)[1:]
				wantValue(t, "a row's total", line, line[len(line)-1], added(numbersIn(impl.Grid{Cells: line[:len(line)-1]})...))
			}
			for col := 1; col < got.Cols; col++ {
				line := columnOf(got, col)[2:]
				wantValue(t, "a column's total", line, line[len(line)-1], added(numbersIn(impl.Grid{Cells: line[:len(line)-1]})...))
			}
			wantValue(t, "the total of all", g, got.Cells[len(got.Cells)-1], walkedFold(columnOf(g, 2), fold))
		}
	})
}

func TestRandomJoined(t *testing.T) {
	eachRandom(t, 1500, func(t *testing.T, random *rand.Rand) {
		c := composer{Rand: random}
		a, b := c.likelyGrid(10, 4), c.likelyGrid(10, 4)
		left, right := 1+random.Intn(a.Cols), 1+random.Intn(b.Cols)
		switch random.Intn(30) {
		case 0:
			left = random.Intn(8) - 2
		case 1:
			right = random.Intn(8) - 2
		}
		wantJoined(t, []impl.Grid{a, b}, a, b, left, right, gridMarks(walkedJoined(a, b, left, right)))
	})
}

// TestAnyPivots: whatever they are given, the functions answer, and write nothing.
func TestAnyPivots(t *testing.T) {
	eachRandom(t, 2000, func(t *testing.T, random *rand.Rand) {
		far := func() int {
			if random.Intn(6) == 0 {
				return farNumbers[random.Intn(len(farNumbers))]
			}
			return random.Intn(6) - 1
		}
		list := func() (out []int) {
			for range random.Intn(6) {
				out = append(out, far())
			}
			return out
		}
		a, b := anyGrid(random), anyGrid(random)
		cols, p := list(), impl.Pivot{Rows: list(), Cols: list(), Totals: random.Intn(2) == 0}
		for range random.Intn(6) {
			p.Measures = append(p.Measures, impl.Measure{Col: far(), Fold: far()})
		}
		checkGrouped(t, a, cols)
		wantPivot(t, a, a, p, walkedGood(a, p), gridMarks(walkedPivot(a, p)))
		left, right, fold := far(), far(), far()
		wantJoined(t, []impl.Grid{a, b}, a, b, left, right, gridMarks(walkedJoined(a, b, left, right)))
		wantFold(t, a.Cells, a.Cells, fold, walkedFold(a.Cells, fold))
	})
}
