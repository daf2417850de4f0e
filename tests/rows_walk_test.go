package tests

import (
	"math/big"
	"math/rand"
	"slices"
	"testing"

	"loop.example/g00025/impl"
)

// The second way to rows in order: each row is put behind the last one that it does not stand ahead of; what stands out
// is asked of an area cell by cell.

func rowAhead(g impl.Grid, keys []impl.SortKey, x, y int) bool {
	for _, key := range keys {
		a, b, order := rowOf(g, x)[key.Col-1], rowOf(g, y)[key.Col-1], 1
		if key.Down {
			order = -1
		}
		if sortsAhead(a, b, order) || sortsAhead(b, a, order) {
			return sortsAhead(a, b, order)
		}
	}
	return false
}

func walkedSorted(g impl.Grid, keys []impl.SortKey) []int {
	noColumn := func(key impl.SortKey) bool { return key.Col < 1 || key.Col > g.Cols }
	if !impl.GoodGrid(g) || len(keys) > 8 || slices.ContainsFunc(keys, noColumn) {
		return nil
	}
	var out []int
	for row := range g.Rows {
		at := len(out)
		for at > 0 && rowAhead(g, keys, row, out[at-1]) {
			at--
		}
		out = slices.Insert(out, at, row)
	}
	return out
}

func walkedFiltered(g impl.Grid, col int, op string, by impl.Value) []int {
	var out []int
	for row := 0; impl.GoodGrid(g) && row < g.Rows && 1 <= col && col <= g.Cols; row++ {
		if goodBySight(by) && walkedMeets(rowOf(g, row)[col-1], op, by) {
			out = append(out, row)
		}
	}
	return out
}

func walkedRuns(g impl.Grid, col int) []int {
	var out []int
	for row := 0; impl.GoodGrid(g) && row < g.Rows && 1 <= col && col <= g.Cols; row++ {
		if row == 0 || !sameCells(rowOf(g, row)[col-1], rowOf(g, row-1)[col-1]) {
			out = append(out, row)
		}
	}
	return out
}

func walkedAllowed(v impl.Value, op string, by impl.Value, list []impl.Value) bool {
	if len(list) == 0 {
		return goodBySight(v) && goodBySight(by) && walkedMeets(v, op, by)
	}
	met := 0
	for _, w := range list {
		if !goodBySight(w) {
			return false
		}
		if goodBySight(v) && sameCells(v, w) {
			met++
		}
	}
	return met > 0
}

func checkRows(t *testing.T, g impl.Grid, keys []impl.SortKey, col int, op string, by impl.Value) {
	t.Helper()
	wasCells, wasKeys := slices.Clone(g.Cells), slices.Clone(keys)
	wantRows(t, keys, g, impl.SortRows(g, keys), toldRows(walkedSorted(g, keys)))
	wantRows(t, []any{col, op, by}, g, impl.FilterRows(g, col, op, by), toldRows(walkedFiltered(g, col, op, by)))
	wantRows(t, col, g, impl.Runs(g, col), toldRows(walkedRuns(g, col)))
	if !slices.Equal(g.Cells, wasCells) || !slices.Equal(keys, wasKeys) {
		t.Errorf("%v was written into", wasCells)
	}
}

var anyOps = []string{"=", "<>", "<", ">", "<=", ">=", "", "+", "&", "==", "=>", " =", "\x00"}

// TestSmallColumns: all columns of up to three cells of some values, both ways.
func TestSmallColumns(t *testing.T) {
	values := []impl.Value{empty, numVal("0"), numVal("-1"), numVal("0.5"), wordsVal(""), wordsVal("a"), wordsVal("A"), wordsVal("0"), wordsVal("b"), yes, no, errVal("#N/A"), errVal("#REF!")}
	check := func(cells ...impl.Value) {
		g := impl.Grid{Rows: len(cells), Cols: 1, Cells: cells}
		for i, key := range []string{"1", "1v", ""} {
			checkRows(t, g, keysOf(key), 1, anyOps[i], cells[len(cells)-1])
		}
	}
	for _, a := range values {
		check(a)
		for _, b := range values {
			check(a, b)
			for _, c := range values {
				check(a, b, c)
			}
		}
	}
}

// likely are few values, so that many rows are the same by a key.
func likely(random *rand.Rand) impl.Value {
	few := []impl.Value{empty, empty, errVal("#N/A"), errVal("#REF!"), numVal("1"), numVal("2"), numVal("-1"), wordsVal("a"), wordsVal("A"), wordsVal("b"), wordsVal(""), wordsVal("1"), yes, no, numVal("0")}
	if random.Intn(6) == 0 {
		return randomGood(random)
	}
	return few[random.Intn(len(few))]
}

func (c composer) keys(cols int) []impl.SortKey {
	var out []impl.SortKey
	for range c.Intn(10) {
		col := 1 + c.Intn(cols)
		if c.Intn(40) == 0 {
			col = c.Intn(cols+3) - 1
		}
		out = append(out, impl.SortKey{Col: col, Down: c.Intn(2) == 0})
	}
	return out
}

func TestRandomRows(t *testing.T) {
	eachRandom(t, 1500, func(t *testing.T, random *rand.Rand) {
		c := composer{Rand: random}
		g := impl.Grid{Rows: 1 + random.Intn(12), Cols: 1 + random.Intn(5)}
		for range g.Rows * g.Cols {
			g.Cells = append(g.Cells, likely(random))
		}
		checkRows(t, g, c.keys(g.Cols), random.Intn(g.Cols+2), c.pick(anyOps...), likely(random))
	})
}

// TestManyRandomRows: rows in order are all of them, each once.
func TestManyRandomRows(t *testing.T) {
	eachRandom(t, 2, func(t *testing.T, random *rand.Rand) {
		c := composer{Rand: random}
		g := impl.Grid{Cols: 1 + random.Intn(8)}
		g.Rows = 2000/g.Cols - random.Intn(100)
		for range g.Rows * g.Cols {
			g.Cells = append(g.Cells, likely(random))
		}
		keys := keysOf("1 2v 3 4v 5 6v 7 8v")[:min(g.Cols, 1+random.Intn(8))]
		checkRows(t, g, keys, 1+random.Intn(g.Cols), c.pick(anyOps...), likely(random))
		rows := slices.Sorted(slices.Values(impl.SortRows(g, keys)))
		if len(rows) != g.Rows || rows[0] != 0 || rows[g.Rows-1] != g.Rows-1 || len(slices.Compact(rows)) != g.Rows {
			t.Errorf("%d rows of %d", len(rows), g.Rows)
		}
	})
}

func TestRandomAllowed(t *testing.T) {
	eachRandom(t, 3000, func(t *testing.T, random *rand.Rand) {
		value := func() impl.Value {
			if random.Intn(12) == 0 {
				return anyValue(random)
			}
			return likely(random)
		}
		var list []impl.Value
		for range random.Intn(5) {
			list = append(list, value())
		}
		was := slices.Clone(list)
		v, op, by := value(), anyOps[random.Intn(len(anyOps))], value()
		if got, want := impl.Allowed(v, op, by, list), walkedAllowed(v, op, by, list); got != want {
			t.Errorf("Allowed(%v, %q, %v, %v) = %v", v, op, by, list, got)
		}
		if !slices.Equal(list, was) {
			t.Errorf("%v was written into", was)
		}
	})
	for _, v := range goodValues() {
		for _, w := range goodValues() {
			if got, want := impl.Allowed(v, "", empty, []impl.Value{w}), sameCells(v, w); got != want {
				t.Errorf("Allowed(%v) by %v alone: %v", v, w, got)
			}
		}
	}
}

// TestAnyRows: whatever they are given, the functions answer, and write nothing.
func TestAnyRows(t *testing.T) {
	eachRandom(t, 3000, func(t *testing.T, random *rand.Rand) {
		far := func() int {
			if random.Intn(3) == 0 {
				return farNumbers[random.Intn(len(farNumbers))]
			}
			return random.Intn(7) - 2
		}
		var keys []impl.SortKey
		for range random.Intn(4) {
			keys = append(keys, impl.SortKey{Col: far(), Down: random.Intn(2) == 0})
		}
		checkRows(t, anyGrid(random), keys, far(), anyOps[random.Intn(len(anyOps))], anyValue(random))
	})
}

// cellwise is the numbers and all other values of a good area, each with its place.
func cellwise(list []impl.Shown, a impl.Area) (numbers []impl.Value, values map[[2]int]impl.Value) {
	values = map[[2]int]impl.Value{}
	for row := 1; row <= 1000; row++ {
		for col := 1; col <= 200; col++ {
			if !holds(a, row, col) {
				continue
			}
			v := impl.ValueAt(list, row, col)
			values[[2]int{row, col}] = v
			if v.Kind == impl.ValNum {
				numbers = append(numbers, v)
			}
		}
	}
	return numbers, values
}

// filledText is a rule's formula as it is read at a place when the area's first cell tells it in the second notation;
// where that loses an address, as it is filled.
func filledText(text string, first impl.Ref, row, col int) string {
	f := impl.ReadFormula(text).Nodes
	there := impl.ReadFormulaBy(impl.FormulaTextBy(f, first.Row, first.Col), row, col)
	if there.Err != 0 {
		there.Nodes = impl.Filled(f, row-first.Row, col-first.Col)
	}
	return impl.FormulaText(there.Nodes)
}

func walkedRule(s impl.Sheet, list []impl.Shown, r impl.Rule, row, col int) bool {
	if !holds(r.Area, row, col) {
		return false
	}
	v := impl.ValueAt(list, row, col)
	numbers, values := cellwise(list, r.Area)
	switch r.Kind {
	case impl.RuleMeets:
		return walkedMeets(v, r.Op, r.By)
	case impl.RuleTop:
		// A whole goes into an int.
		beyond := new(big.Rat).SetInt(new(big.Int).Lsh(big.NewInt(1), 63))
		if r.By.Kind != impl.ValNum || v.Kind != impl.ValNum || impl.DecCmp(r.By.Num, numVal("1").Num) < 0 || ratOf(r.By.Num).Cmp(beyond) >= 0 {
			return false
		}
		slices.SortFunc(numbers, func(a, b impl.Value) int { return walkedOrder(b, a) })
		for k, w := range numbers {
			if impl.DecCmp(countOf(k+1).Num, r.By.Num) <= 0 && w == v {
				return true
			}
		}
		return false
	case impl.RuleTwice:
		same := 0
		for _, w := range values {
			if v != empty && sameCells(v, w) {
				same++
			}
		}
		return same > 1
	}
	if r.By.Kind != impl.ValText {
		return false
	}
	first := impl.Ref{Row: min(r.Area.From.Row, r.Area.To.Row), Col: min(r.Area.From.Col, r.Area.To.Col)}
	text := filledText(r.By.Text, first, row, col)
	g := walkedGrid(s, text, func(row, col int) impl.Value { return impl.ValueAt(list, row, col) })
	return impl.BoolOf(g.Cells[0]) == yes
}

func (c composer) rule(far bool) impl.Rule {
	row, col := 0, 0
	if far {
		row, col = 995, 196
	}
	end := func() impl.Ref {
		return impl.Ref{Row: row + 1 + c.Intn(5), Col: col + 1 + c.Intn(4), RowFix: c.Intn(4) == 0, ColFix: c.Intn(4) == 0}
	}
	r := impl.Rule{Area: impl.Area{From: end(), To: end()}, Kind: 1 + c.Intn(4), Op: c.pick(anyOps...), By: likely(c.Rand), Style: c.Intn(100)}
	switch {
	case r.Kind == impl.RuleTop && c.Intn(5) > 0:
		r.By = numOf(impl.DecOf(c.Intn(60)-5, -1).Dec)
	case r.Kind == impl.RuleFormula && c.Intn(8) > 0:
		by := c.pick("="+c.ref()+c.pick("=", "<", ">", "<>")+c.ref(), "=ISNUMBER("+c.ref()+")", "=$B"+c.pick("1", "$2")+">"+c.ref(), "=COUNTIF($A$1:$D$5,"+c.ref()+")>1", "=SUM("+c.ref()+":"+c.ref()+")>3", "=ISERROR(C$3:$D4)", c.text(2))
		if len(by) <= 1000 {
			r.By = wordsVal(by)
		}
	}
	return r
}

func TestRandomStyles(t *testing.T) {
	eachRandom(t, 150, func(t *testing.T, random *rand.Rand) {
		c := composer{Rand: random}
		s := c.sheet()
		far := random.Intn(4) == 0
		if far {
			s = atTheEnd(s)
		}
		var rules []impl.Rule
		for range 1 + random.Intn(8) {
			rules = append(rules, c.rule(far))
		}
		list := impl.EvalSheet(s)
		for range 6 {
			row, col := 1+random.Intn(5), 1+random.Intn(4)
			if far {
				row, col = row+995, col+196
			}
			var want []int
			for _, r := range rules {
				if walkedRule(s, list, r, row, col) {
					want = append(want, r.Style)
				}
			}
			wantStyles(t, s, rules, row, col, toldRows(want))
		}
	})
}

// TestAnyStyles: whatever it is given, Styles answers, and writes nothing; what is not good makes nothing stand out.
func TestAnyStyles(t *testing.T) {
	eachRandom(t, 300, func(t *testing.T, random *rand.Rand) {
		c := composer{Rand: random}
		s := anySheet(c)
		good := impl.GoodSheet(s)
		var rules []impl.Rule
		for range random.Intn(60) {
			r := c.rule(random.Intn(2) == 0)
			switch random.Intn(100) {
			case 0:
				r.Kind = farNumbers[random.Intn(len(farNumbers))]
			case 1:
				r.By = anyValue(random)
			case 2:
				r.Area.To.Row = farNumbers[random.Intn(len(farNumbers))]
			case 3:
				r.Area.From.Col = random.Intn(203) - 1
			}
			rules = append(rules, r)
			good = good && impl.GoodArea(r.Area) && goodBySight(r.By) && r.Kind >= 1 && r.Kind <= 4
		}
		row, col := random.Intn(8)-1, random.Intn(6)-1
		good = good && impl.GoodRef(cell(row, col)) && len(rules) <= 50
		wasSheet, wasRules := cloned(s), slices.Clone(rules)
		if got := impl.Styles(s, rules, row, col); !good && len(got) > 0 || len(got) > len(rules) {
			t.Errorf("%v stands out of %s by %v", got, toldSheet(s), rules)
		}
		if !sameSheets(s, wasSheet) || !slices.Equal(rules, wasRules) {
			t.Errorf("%s was written into", toldSheet(wasSheet))
		}
	})
}
