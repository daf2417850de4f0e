package tests

import (
	"fmt"
	"maps"
	"math/rand"
	"slices"
	"strings"
	"testing"

	"loop.example/g00025/impl"
)

// The second way to what sheets show: a formula's nodes are gone through as they stand in their list, cells are asked
// for as they are needed, and what is laid down is told place by place. Of the program it takes what reads formulas;
// operators and functions are those of the other second ways.

// thing is what a node gives: a grid, or a function.
type thing struct {
	grid impl.Grid
	does *doing
}

type doing struct {
	names []string
	body  nodes
	bound map[string]thing
}

func oneCell(v impl.Value) thing { return thing{grid: fullGrid(1, 1, v)} }

// kidsOf parts the nodes behind the first one.
func kidsOf(f nodes) []nodes {
	var out []nodes
	rest := f[1:]
	for range f[0].Kids {
		size := 0
		for open := 1; open > 0; size++ {
			open += rest[size].Kids - 1
		}
		out = append(out, rest[:size])
		rest = rest[size:]
	}
	return out
}

// upon lays grids upon each other.
func upon(grids []impl.Grid, pick func(cells []impl.Value) impl.Value) thing {
	rows, cols := 1, 1
	for _, g := range grids {
		rows, cols = max(rows, g.Rows), max(cols, g.Cols)
	}
	if rows*cols > 2000 {
		return oneCell(notThis)
	}
	var lines [][][]*impl.Value
	for _, g := range grids {
		lines = append(lines, stretched(g, rows, cols))
	}
	out := fullGrid(rows, cols, noCell)
	for i := range out.Cells {
		var cells []impl.Value
		for _, line := range lines {
			if v := line[i/cols][i%cols]; v != nil {
				cells = append(cells, *v)
			}
		}
		if len(cells) == len(grids) {
			out.Cells[i] = pick(cells)
		}
	}
	return thing{grid: out}
}

func truthAt(v impl.Value) impl.Value {
	return caught(func() impl.Grid { return fullGrid(1, 1, truthOf(boolOf(v))) }).Cells[0]
}

// reckoner evaluates one formula.
type reckoner struct {
	names map[string]string
	value func(row, col int) impl.Value
	steps int
	going []string
	calls int
}

func (r *reckoner) grid(f nodes, bound map[string]thing) impl.Grid {
	x := r.node(f, bound)
	if x.does != nil {
		return fullGrid(1, 1, notThis)
	}
	return x.grid
}

func (r *reckoner) node(f nodes, bound map[string]thing) thing {
	r.steps++
	if r.steps > 20000 {
		return oneCell(noNumber)
	}
	n, kids := f[0], kidsOf(f)
	switch n.Kind {
	case impl.NodNum:
		return oneCell(numOf(n.Num))
	case impl.NodText:
		return oneCell(wordsVal(n.Text))
	case impl.NodBool:
		return oneCell(truthVal(n.Text))
	case impl.NodErr:
		return oneCell(errVal(n.Text))
	case impl.NodNothing:
		return oneCell(empty)
	case impl.NodRef:
		return oneCell(r.value(n.From.Row, n.From.Col))
	case impl.NodArea:
		return r.area(n)
	case impl.NodName:
		return r.named(strings.ToUpper(n.Text), bound)
	case impl.NodMinus:
		return upon([]impl.Grid{r.grid(kids[0], bound)}, func(v []impl.Value) impl.Value { return walkedApply("-", numVal("0"), v[0]) })
	case impl.NodPercent:
		return upon([]impl.Grid{r.grid(kids[0], bound)}, func(v []impl.Value) impl.Value { return walkedApply("/", v[0], numVal("100")) })
	case impl.NodOp:
		return upon([]impl.Grid{r.grid(kids[0], bound), r.grid(kids[1], bound)}, func(v []impl.Value) impl.Value { return walkedApply(n.Text, v[0], v[1]) })
	case impl.NodArray:
		rows := int(n.Text[0] - '0')
		out := impl.Grid{Rows: rows, Cols: len(kids) / rows}
		for _, kid := range kids {
			out.Cells = append(out.Cells, r.grid(kid, bound).Cells[0])
		}
		return thing{grid: out}
	}
	return r.called(n.Text, kids, bound)
}

func (r *reckoner) area(n impl.Node) thing {
	var rows [][]impl.Value
	for row := min(n.From.Row, n.To.Row); row <= max(n.From.Row, n.To.Row); row++ {
		var cells []impl.Value
		for col := min(n.From.Col, n.To.Col); col <= max(n.From.Col, n.To.Col); col++ {
			cells = append(cells, r.value(row, col))
		}
		rows = append(rows, cells)
	}
	return thing{grid: caught(func() impl.Grid { return rowsGrid(rows...) })}
}

func (r *reckoner) named(name string, bound map[string]thing) thing {
	if x, is := bound[name]; is {
		return x
	}
	text, is := r.names[name]
	read := impl.ReadFormula(text)
	switch {
	case !is || read.Err != 0:
		return oneCell(noSign)
	case slices.Contains(r.going, name):
		return oneCell(errVal("#CYCLE!"))
	}
	r.going = append(r.going, name)
	x := r.node(read.Nodes, nil)
	r.going = r.going[:len(r.going)-1]
	return x
}

func with(bound map[string]thing, name string, x thing) map[string]thing {
	out := maps.Clone(bound)
	if out == nil {
		out = map[string]thing{}
	}
	out[strings.ToUpper(name)] = x
	return out
}

// apply calls a function.
func (r *reckoner) apply(d *doing, args ...impl.Grid) impl.Grid {
	if len(args) != len(d.names) {
		return fullGrid(1, 1, notThis)
	}
	if r.calls >= 60 {
		return fullGrid(1, 1, noNumber)
	}
	bound := d.bound
	for i, name := range d.names {
		bound = with(bound, name, thing{grid: args[i]})
	}
	r.calls++
	g := r.grid(d.body, bound)
	r.calls--
	return g
}

// formCounts: how many arguments the seven take.
var formCounts = map[string][]int{"IF": {2, 3}, "IFERROR": {2}, "LET": {3, 5, 7, 9, 11, 13, 15, 17, 19, 21, 23, 25, 27, 29}, "LAMBDA": {1, 2, 3, 4, 5, 6, 7, 8, 9, 10}, "MAP": {2}, "REDUCE": {3}, "BYROW": {2}}

func (r *reckoner) called(name string, args []nodes, bound map[string]thing) thing {
	if counts, is := formCounts[name]; is {
		if !slices.Contains(counts, len(args)) {
			return oneCell(notThis)
		}
		return r.form(name, args, bound)
	}
	least, most := impl.ArgCount(name)
	var does *doing
	if most == 0 {
		does = r.named(name, bound).does
		if does == nil {
			return oneCell(noSign)
		}
	}
	var grids []impl.Grid
	for _, a := range args {
		grids = append(grids, r.grid(a, bound))
	}
	switch {
	case does != nil:
		return thing{grid: r.apply(does, grids...)}
	case len(grids) < least || len(grids) > most:
		return oneCell(notThis)
	}
	return thing{grid: walkedCall(name, grids)}
}

func (r *reckoner) form(name string, args []nodes, bound map[string]thing) thing {
	last := args[len(args)-1]
	switch name {
	case "IF", "IFERROR":
		return r.choice(name, args, bound)
	case "LET":
		for i := 0; i+1 < len(args); i += 2 {
			if args[i][0].Kind != impl.NodName {
				return oneCell(notThis)
			}
			bound = with(bound, args[i][0].Text, r.node(args[i+1], bound))
		}
		return thing{grid: r.grid(last, bound)}
	case "LAMBDA":
		does := &doing{body: last, bound: bound}
		for _, a := range args[:len(args)-1] {
			if a[0].Kind != impl.NodName || slices.Contains(does.names, strings.ToUpper(a[0].Text)) {
				return oneCell(notThis)
			}
			does.names = append(does.names, strings.ToUpper(a[0].Text))
		}
		return thing{does: does}
	}
	var grids []impl.Grid
	for _, a := range args[:len(args)-1] {
		grids = append(grids, r.grid(a, bound))
	}
	does := r.node(last, bound).does
	if does == nil {
		return oneCell(notThis)
	}
	return thing{grid: r.repeated(name, grids, does)}
}

func (r *reckoner) choice(name string, args []nodes, bound map[string]thing) thing {
	first := r.grid(args[0], bound)
	asked, other := first.Cells[0], no
	if name == "IF" {
		asked = truthAt(asked)
	}
	if len(first.Cells) == 1 {
		switch {
		case name == "IF" && isBad(asked), name == "IFERROR" && !isBad(asked):
			return oneCell(asked)
		case name == "IFERROR" || asked == yes:
			return thing{grid: r.grid(args[1], bound)}
		case len(args) == 3:
			return thing{grid: r.grid(args[2], bound)}
		}
		return oneCell(no)
	}
	grids := []impl.Grid{first, r.grid(args[1], bound), fullGrid(1, 1, other)}
	if len(args) == 3 {
		grids[2] = r.grid(args[2], bound)
	}
	return upon(grids, func(v []impl.Value) impl.Value {
		switch is := truthAt(v[0]); {
		case name == "IFERROR" && isBad(v[0]):
			return v[1]
		case name == "IFERROR":
			return v[0]
		case isBad(is):
			return is
		case is == yes:
			return v[1]
		}
		return v[2]
	})
}

// repeated is what MAP, REDUCE and BYROW make.
func (r *reckoner) repeated(name string, grids []impl.Grid, does *doing) impl.Grid {
	if name == "REDUCE" {
		out := grids[0]
		for _, v := range grids[1].Cells {
			out = r.apply(does, out, fullGrid(1, 1, v))
		}
		return out
	}
	var rows [][]impl.Value
	for _, row := range allRows(grids[0]) {
		if name == "BYROW" {
			rows = append(rows, r.apply(does, rowsGrid(row)).Cells[:1])
			continue
		}
		var cells []impl.Value
		for _, v := range row {
			cells = append(cells, r.apply(does, fullGrid(1, 1, v)).Cells[0])
		}
		rows = append(rows, cells)
	}
	return rowsGrid(rows...)
}

// walkedGrid is what a formula's text gives by the values of cells.
func walkedGrid(s impl.Sheet, text string, value func(row, col int) impl.Value) impl.Grid {
	read := impl.ReadFormula(text)
	if read.Err != 0 {
		return fullGrid(1, 1, noSign)
	}
	r := reckoner{names: map[string]string{}, value: value}
	for _, n := range s.Names {
		r.names[n.Name] = n.Text
	}
	g := r.grid(read.Nodes, nil)
	out := impl.Grid{Rows: g.Rows, Cols: g.Cols, Cells: slices.Clone(g.Cells)}
	for i, v := range out.Cells {
		if v == empty {
			out.Cells[i] = numVal("0")
		}
	}
	return out
}

// refersTo says whether a formula refers to a place, itself or by the sheet's names that stand in it.
func refersTo(s impl.Sheet, text string, row, col int, met []string) bool {
	f := impl.ReadFormula(text).Nodes
	for _, a := range impl.UsedAreas(f) {
		if holds(a, row, col) {
			return true
		}
	}
	for _, n := range f {
		for _, named := range s.Names {
			if (n.Kind == impl.NodName || n.Kind == impl.NodCall) && strings.ToUpper(n.Text) == named.Name && !slices.Contains(met, named.Name) {
				if refersTo(s, named.Text, row, col, append(slices.Clone(met), named.Name)) {
					return true
				}
			}
		}
	}
	return false
}

// needingThemselves goes over all ways from cell to cell.
func needingThemselves(s impl.Sheet) []bool {
	n := len(s.Cells)
	ways := make([][]bool, n)
	for i, c := range s.Cells {
		for _, d := range s.Cells {
			ways[i] = append(ways[i], refersTo(s, c.Text, d.Row, d.Col, nil))
		}
	}
	for by := range n {
		for from := range n {
			for to := range n {
				ways[from][to] = ways[from][to] || ways[from][by] && ways[by][to]
			}
		}
	}
	var out []bool
	for i := range n {
		out = append(out, ways[i][i])
	}
	return out
}

// layer is what was laid down, by places, and by which cell.
type layer map[[2]int]struct {
	value impl.Value
	by    int
}

// walkedRound is the grids of one round.
type walkedRound struct {
	sheet impl.Sheet
	given []bool
	ahead layer
	grids map[int]impl.Grid
}

func (w *walkedRound) value(row, col int) impl.Value {
	for i, c := range w.sheet.Cells {
		if c.Row == row && c.Col == col {
			return w.grid(i).Cells[0]
		}
	}
	return w.ahead[[2]int{row, col}].value
}

func (w *walkedRound) grid(i int) impl.Grid {
	if g, is := w.grids[i]; is {
		return g
	}
	c := w.sheet.Cells[i]
	g := fullGrid(1, 1, walkedTyped(c.Text))
	if c.Text[0] == '=' {
		g = fullGrid(1, 1, errVal("#CYCLE!"))
		if !w.given[i] {
			g = walkedGrid(w.sheet, c.Text, w.value)
		}
	}
	for at := 1; at < len(g.Cells); at++ {
		row, col := c.Row+at/g.Cols, c.Col+at%g.Cols
		l, isLaid := w.ahead[[2]int{row, col}]
		taken := slices.ContainsFunc(w.sheet.Cells, func(d impl.Cell) bool { return d.Row == row && d.Col == col })
		if row > 1000 || col > 200 || taken || isLaid && l.by < i {
			g = fullGrid(1, 1, errVal("#SPILL!"))
		}
	}
	w.grids[i] = g
	return g
}

// walkedSheet is what a good sheet shows, and after how many rounds.
func walkedSheet(s impl.Sheet) ([]impl.Shown, int) {
	given := needingThemselves(s)
	var ahead layer
	var before map[int]impl.Grid
	for round := 1; ; round++ {
		w := walkedRound{sheet: s, given: given, ahead: ahead, grids: map[int]impl.Grid{}}
		after := layer{}
		for i := len(s.Cells) - 1; i >= 0; i-- {
			g := w.grid(i)
			for at := 1; at < len(g.Cells); at++ {
				l := after[[2]int{s.Cells[i].Row + at/g.Cols, s.Cells[i].Col + at%g.Cols}]
				l.value, l.by = g.Cells[at], i
				after[[2]int{s.Cells[i].Row + at/g.Cols, s.Cells[i].Col + at%g.Cols}] = l
			}
		}
		if maps.Equal(after, ahead) {
			return w.shown(), round
		}
		for i, g := range w.grids {
			given[i] = given[i] || round%20 == 0 && !sameGrids(g, before[i])
		}
		ahead, before = after, w.grids
	}
}

func (w *walkedRound) shown() []impl.Shown {
	var out []impl.Shown
	for row := 1; row <= 1000; row++ {
		for col := 1; col <= 200; col++ {
			l, isLaid := w.ahead[[2]int{row, col}]
			at := slices.IndexFunc(w.sheet.Cells, func(d impl.Cell) bool { return d.Row == row && d.Col == col })
			switch {
			case at >= 0:
				out = append(out, impl.Shown{Row: row, Col: col, Value: w.grid(at).Cells[0], From: true})
			case isLaid:
				out = append(out, impl.Shown{Row: row, Col: col, Value: l.value})
			}
		}
		// Random sheets have their cells in few rows.
		if row == 60 {
			row = 940
		}
	}
	return out
}

// composer makes random formulas for the cells of a few rows and columns.
type composer struct {
	*rand.Rand
}

func (c composer) pick(list ...string) string { return list[c.Intn(len(list))] }

func (c composer) ref() string { return fmt.Sprintf("%s%d", c.pick("A", "B", "C", "D"), 1+c.Intn(5)) }

func (c composer) atom(bound []string) string {
	switch c.Intn(14) {
	case 0:
		return c.pick("TRUE", "FALSE", "\"a\"", "\"\"", "\"2\"", "#N/A", "1/0")
	case 1:
		return c.pick("{1,2}", "{1;2}", "{1,-2;3,\"x\"}", "{5}", "{TRUE,FALSE}", "{#N/A,1,2}")
	case 2, 3, 4, 5:
		return c.ref()
	case 6:
		return c.ref() + ":" + c.ref()
	case 7, 8:
		return c.pick("foo", "bar", "fun", "gun", "x", "Y", "nosuch", "sum")
	case 9, 10, 11:
		if len(bound) > 0 {
			return c.pick(bound...)
		}
	}
	return c.pick("0", "1", "2", "3", "5", "0.5")
}

// function is what may stand where a function is wanted; now and then what may not.
func (c composer) function(names, deep int, bound []string) string {
	switch c.Intn(6) {
	case 0:
		return c.pick("fun", "gun", "x", "foo")
	case 1:
		return c.expression(deep-1, bound)
	}
	var own []string
	for range max(0, names+c.Intn(9)/8-c.Intn(9)/8) {
		own = append(own, c.pick("x", "y", "foo", "z"))
	}
	return "LAMBDA(" + strings.Join(append(own, c.expression(deep-1, slices.Concat(bound, own))), ",") + ")"
}

func (c composer) list(n, deep int, bound []string) string {
	var out []string
	for range n {
		out = append(out, c.expression(deep-1, bound))
	}
	return strings.Join(out, ",")
}

func (c composer) expression(deep int, bound []string) string {
	if deep <= 0 || c.Intn(5) == 0 {
		return c.atom(bound)
	}
	part := func() string { return c.expression(deep-1, bound) }
	switch c.Intn(16) {
	case 0, 1, 2:
		return "(" + part() + ")" + c.pick("+", "-", "*", "/", "^", "&", "=", "<", ">", "<=", ">=", "<>") + "(" + part() + ")"
	case 3:
		return c.pick("-(", "(") + part() + c.pick(")", ")%")
	case 4, 5:
		return c.pick("IF(", "IF(", "IFERROR(") + c.list(2+c.Intn(2), deep, bound) + ")"
	case 6, 7:
		return c.let(deep, bound)
	case 8:
		return "MAP(" + part() + "," + c.function(1, deep, bound) + ")"
	case 9:
		return "REDUCE(" + part() + "," + part() + "," + c.function(2, deep, bound) + ")"
	case 10:
		return "BYROW(" + part() + "," + c.function(1, deep, bound) + ")"
	case 11, 12:
		return c.pick(append([]string{"fun", "gun", "fun", "x", "foo"}, bound...)...) + "(" + c.list(c.Intn(3), deep, bound) + ")"
	case 13:
		return c.pick("HSTACK(", "VSTACK(", "SUM(", "COUNT(", "CHOOSE(", "CONCAT(", "MAX(") + c.list(1+c.Intn(3), deep, bound) + ")"
	case 14:
		return c.pick("ISBLANK(", "ISERROR(", "NOT(", "TRANSPOSE(", "ROWS(", "ABS(", "SEQUENCE(") + part() + ")"
	}
	return c.pick("IF(", "IFERROR(", "LET(", "LAMBDA(", "MAP(", "REDUCE(", "BYROW(", "SUM(", "INDEX(", "ROUND(") + c.list(c.Intn(5), deep, bound) + ")"
}

func (c composer) let(deep int, bound []string) string {
	out := "LET("
	for range 1 + c.Intn(2) {
		name := c.pick("x", "y", "foo", "Fun", "z", "sum")
		if c.Intn(3) == 0 {
			out += name + "," + c.function(1, deep, bound) + ","
		} else {
			out += name + "," + c.expression(deep-1, bound) + ","
		}
		bound = append(slices.Clone(bound), name)
	}
	return out + c.expression(deep-1, bound) + ")"
}

// text is one that may stand in a cell.
func (c composer) text(deep int) string {
	for {
		if text := "=" + c.expression(deep, nil); len(text) <= 2000 {
			return text
		}
	}
}

func (c composer) sheet() impl.Sheet {
	var s impl.Sheet
	for row := 1; row <= 5; row++ {
		for col := 1; col <= 4; col++ {
			if c.Intn(3) > 0 {
				continue
			}
			text := c.pick("1", "2", "0", "x", "TRUE", "'", "#N/A", "=1+")
			if c.Intn(4) > 0 {
				text = c.text(1 + c.Intn(3))
			}
			if c.Intn(4) == 0 {
				text = c.pick("={1,2}", "={1;2}", "=SEQUENCE(2,2)", "=SEQUENCE(3)", "=HSTACK(1,"+c.ref()+")", "=VSTACK("+c.ref()+","+c.ref()+")", "="+c.ref()+":"+c.ref(), "=IF("+c.ref()+"=1,{5,6},7)", "=IF(ISBLANK("+c.ref()+"),{1;2},{3,4})")
			}
			s.Cells = append(s.Cells, impl.Cell{Row: row, Col: col, Text: text})
		}
	}
	for _, name := range []string{"BAR", "FOO", "FUN", "GUN", "X"} {
		text := c.text(1 + c.Intn(3))
		if strings.HasSuffix(name, "UN") && c.Intn(6) > 0 {
			text = "=" + c.function(1+c.Intn(2), 3, nil)
		}
		if c.Intn(4) > 0 {
			s.Names = append(s.Names, impl.Named{Name: name, Text: text})
		}
	}
	return s
}

// atTheEnd moves cells to where the last rows and columns are, so that there is little room.
func atTheEnd(s impl.Sheet) impl.Sheet {
	s = cloned(s)
	for i := range s.Cells {
		s.Cells[i].Row += 1000 - 5
		s.Cells[i].Col += 200 - 4
	}
	return s
}

func toldSheet(s impl.Sheet) string {
	var out []string
	for _, c := range s.Cells {
		out = append(out, impl.RefText(cell(c.Row, c.Col))+": "+c.Text)
	}
	for _, n := range s.Names {
		out = append(out, n.Name+": "+n.Text)
	}
	return strings.Join(out, " | ")
}

// checkShown asks that each cell shows what its formula gives by what the others show, and that grids are laid down.
func checkShown(t *testing.T, s impl.Sheet, list []impl.Shown) {
	t.Helper()
	laid := map[[2]int]bool{}
	for _, c := range s.Cells {
		if c.Text[0] != '=' {
			continue
		}
		v := impl.ValueAt(list, c.Row, c.Col)
		// These may be what the formula gives, or what is told of it.
		given := v == errVal("#CYCLE!") || v == errVal("#SPILL!")
		g := impl.EvalFormula(s, c.Row, c.Col, c.Text)
		for i, want := range g.Cells {
			row, col := c.Row+i/g.Cols, c.Col+i%g.Cols
			got := impl.ValueAt(list, row, col)
			laid[[2]int{row, col}] = laid[[2]int{row, col}] || got == want
			if !given {
				wantValue(t, toldSheet(s), []int{row, col}, got, want)
			}
		}
	}
	for i, shown := range list {
		if i > 0 && (shown.Row < list[i-1].Row || shown.Row == list[i-1].Row && shown.Col <= list[i-1].Col) {
			t.Errorf("%s: %v is not in its place", toldSheet(s), shown)
		}
		has := slices.ContainsFunc(s.Cells, func(c impl.Cell) bool { return c.Row == shown.Row && c.Col == shown.Col })
		if !impl.GoodValue(shown.Value) || shown.Value == empty || shown.From != has || !has && !laid[[2]int{shown.Row, shown.Col}] {
			t.Errorf("%s: %v is shown", toldSheet(s), shown)
		}
	}
}

func checkWalkedSheet(t *testing.T, s impl.Sheet) int {
	t.Helper()
	was := cloned(s)
	list := impl.EvalSheet(s)
	want, rounds := walkedSheet(s)
	if !slices.Equal(list, want) {
		t.Errorf("%s\n shows %s\n want  %s", toldSheet(s), listMarks(list), listMarks(want))
	}
	checkShown(t, s, list)
	if !sameSheets(s, was) {
		t.Errorf("%s was written into", toldSheet(was))
	}
	return rounds
}

func TestRandomSheets(t *testing.T) {
	eachRandom(t, 120, func(t *testing.T, random *rand.Rand) {
		c := composer{Rand: random}
		s := c.sheet()
		checkWalkedSheet(t, s)
		if random.Intn(4) == 0 {
			checkWalkedSheet(t, atTheEnd(s))
		}
		value := func(list []impl.Shown) func(row, col int) impl.Value {
			return func(row, col int) impl.Value { return impl.ValueAt(list, row, col) }
		}
		text := c.text(3)
		wantGrid(t, text, toldSheet(s), impl.EvalFormula(s, 1+random.Intn(1000), 1+random.Intn(200), text), walkedGrid(s, text, value(impl.EvalSheet(s))))
	})
}

// restless is a sheet of formulas that lay down, and that read what others lay down.
func (c composer) restless() impl.Sheet {
	var s impl.Sheet
	for row := 1; row <= 4; row++ {
		for col := 1; col <= 3; col++ {
			if c.Intn(5) > 1 {
				continue
			}
			a, b := c.ref(), c.ref()
			s.Cells = append(s.Cells, impl.Cell{Row: row, Col: col, Text: c.pick(
				"=HSTACK(1,NOT("+a+"))", "=HSTACK(1,"+a+")", "=VSTACK(1,"+a+")", "=HSTACK("+a+","+b+")", "=VSTACK("+a+","+b+"+1)", "=HSTACK(1,MIN("+a+"+1,"+c.pick("3", "9", "19", "20", "25")+"))",
				"=IF(ISBLANK("+a+"),{1;2},"+b+")", "=IF("+a+"=1,{1,2},{3;4})", "=IF("+a+">1,5,{1,2;3,4})", "=IF(ISERROR("+a+"),{1;2},{3,4})", "=IF(ISERROR("+a+"),1,HSTACK(1,NOT("+b+")))", "="+a+":"+b, "=SEQUENCE("+a+"+1)", "=SEQUENCE(1,"+a+"+2)",
				"={1,2}", "={1;1}", "=SUM("+a+":"+b+")", "=TRANSPOSE("+a+":"+b+")", "="+a+"+1", "1")})
		}
	}
	return s
}

func TestRestlessSheets(t *testing.T) {
	eachRandom(t, 400, func(t *testing.T, random *rand.Rand) {
		checkWalkedSheet(t, composer{Rand: random}.restless())
	})
}

// TestHeavyFormulas has formulas whose evaluations come near to the last one, and go beyond it.
func TestHeavyFormulas(t *testing.T) {
	eachRandom(t, 12, func(t *testing.T, random *rand.Rand) {
		c := composer{Rand: random}
		s := sheetOf("A1: 1 | B2: 2 | C3: ={3,4} | BAR: =bar | FOO: =A1+1 | FUN: =LAMBDA(x,x&\"!\") | GUN: =LAMBDA(x,IF(x<1,0,gun(x-1))) | X: =A1:B2")
		many, inner := 100+random.Intn(1900), c.expression(2, []string{"x", "y"})
		text := fmt.Sprintf("=%s+REDUCE(0,SEQUENCE(%d),LAMBDA(x,y,%s))", c.atom(nil), many, inner)
		if random.Intn(2) == 0 {
			text = fmt.Sprintf("=MAP(SEQUENCE(%d),LAMBDA(x,%s))&%s", many, inner, c.atom(nil))
		}
		list := impl.EvalSheet(s)
		value := func(row, col int) impl.Value { return impl.ValueAt(list, row, col) }
		wantGrid(t, text, toldSheet(s), impl.EvalFormula(s, 9, 9, text), walkedGrid(s, text, value))
	})
}

// anySheet is one of any places and texts; some are good.
func anySheet(c composer) impl.Sheet {
	s := c.sheet()
	wild := func() string {
		switch c.Intn(5) {
		case 0:
			text := make([]byte, c.Intn(30))
			c.Read(text)
			return string(text)
		case 1:
			return "=" + strings.Repeat(c.pick("-", "(", "1+", "{", "A1:"), c.Intn(60)) + "1"
		case 2:
			return c.pick("", "=", "'", letters(1999+c.Intn(3)), "="+letters(1998+c.Intn(3)))
		}
		return c.text(2)
	}
	number := func() int {
		if c.Intn(2) == 0 {
			return farNumbers[c.Intn(len(farNumbers))]
		}
		return c.Intn(1003)
	}
	for range c.Intn(4) {
		switch {
		case c.Intn(3) == 0 && len(s.Cells) > 0:
			s.Cells[c.Intn(len(s.Cells))] = impl.Cell{Row: number(), Col: number(), Text: wild()}
		case c.Intn(2) == 0 && len(s.Cells) > 0:
			s.Cells[c.Intn(len(s.Cells))].Text = wild()
		case len(s.Names) > 0:
			s.Names[c.Intn(len(s.Names))] = impl.Named{Name: c.pick("A", "FUN", "", "SUM", "let", "Z.9", wild()), Text: wild()}
		}
	}
	return s
}

// TestAnySheets: whatever it is given, each function answers, and writes nothing.
func TestAnySheets(t *testing.T) {
	eachRandom(t, 250, func(t *testing.T, random *rand.Rand) {
		c := composer{Rand: random}
		s := anySheet(c)
		was := cloned(s)
		row, col := random.Intn(1004)-1, random.Intn(204)-1
		text := anySheet(c).Names
		list, good := impl.EvalSheet(s), impl.GoodSheet(s)
		if !good && len(list) > 0 || good && len(list) < len(s.Cells) {
			t.Errorf("%s shows %s", toldSheet(s), listMarks(list))
		}
		for _, shown := range list {
			if !impl.GoodValue(shown.Value) || shown.Value == empty || !impl.GoodRef(cell(shown.Row, shown.Col)) {
				t.Errorf("%s shows %v", toldSheet(s), shown)
			}
		}
		for _, n := range text {
			g := impl.EvalFormula(s, row, col, n.Text)
			if !good || !impl.GoodRef(cell(row, col)) {
				wantNoGrid(t, g)
			} else if !impl.GoodGrid(g) || slices.Contains(g.Cells, empty) {
				t.Errorf("%s gives %v", n.Text, g)
			}
		}
		any := []impl.Shown{{Row: row, Col: col, Value: anyValue(random)}, {Row: col, Col: row, Value: anyValue(random), From: true}}
		before := slices.Clone(any)
		wantValue(t, "ValueAt", any, impl.ValueAt(any, row, col), before[0].Value)
		if !sameSheets(s, was) || !slices.Equal(any, before) {
			t.Errorf("%s was written into", toldSheet(was))
		}
	})
}
