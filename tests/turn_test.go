package tests

import (
	"math"
	"slices"
	"strings"
	"testing"

	"loop.example/g00025/impl"
)

const lost = "=#REF!"

func rowsIn(at, many int) impl.Turn { return impl.Turn{Kind: impl.TurnRows, At: at, Many: many} }

func colsIn(at, many int) impl.Turn { return impl.Turn{Kind: impl.TurnCols, At: at, Many: many} }

func rowsOut(at, many int) impl.Turn {
	return impl.Turn{Kind: impl.TurnRows, At: at, Many: many, Delete: true}
}

func colsOut(at, many int) impl.Turn {
	return impl.Turn{Kind: impl.TurnCols, At: at, Many: many, Delete: true}
}

var farNumbers = []int{-1, -100, -impl.MaxRow, 100000, math.MaxInt32, math.MaxInt - 1, math.MaxInt, math.MinInt, math.MinInt + 1}

// noTurns: turns that are not good.
func noTurns() []impl.Turn {
	out := []impl.Turn{
		{}, {Delete: true}, {At: 1, Many: 1}, {At: 1, Many: 1, Delete: true},
		{Kind: 3, At: 1, Many: 1}, {Kind: 3, At: 1, Many: 1, Delete: true},
		{Kind: impl.TurnRows}, {Kind: impl.TurnCols, Delete: true},
	}
	for _, way := range []impl.Turn{rowsIn(1, 1), colsIn(1, 1), rowsOut(1, 1), colsOut(1, 1)} {
		last := map[int]int{impl.TurnRows: impl.MaxRow, impl.TurnCols: impl.MaxCol}[way.Kind]
		for _, n := range append([]int{0, last + 1}, farNumbers...) {
			at := way
			at.At = n
			out = append(out, at)
		}
		for _, n := range append([]int{0, 101}, farNumbers...) {
			many := way
			many.Many = n
			out = append(out, many)
			many.At = last
			out = append(out, many)
		}
		for _, n := range farNumbers {
			kind := way
			kind.Kind = n
			both := way
			both.At, both.Many = n, n
			out = append(out, kind, both)
		}
	}
	for _, many := range []int{2, 3, 99, 100} {
		out = append(out, rowsOut(impl.MaxRow-many+2, many), rowsOut(impl.MaxRow, many), colsOut(impl.MaxCol-many+2, many), colsOut(impl.MaxCol, many))
	}
	return out
}

func TestConstantsOfTurns(t *testing.T) {
	if impl.TurnRows != 1 || impl.TurnCols != 2 {
		t.Errorf("%d, %d", impl.TurnRows, impl.TurnCols)
	}
}

func TestGoodTurn(t *testing.T) {
	for _, g := range []impl.Turn{
		rowsIn(1, 1), rowsIn(1, 100), rowsIn(1000, 1), rowsIn(1000, 2), rowsIn(1000, 100), rowsIn(500, 50), rowsIn(201, 1),
		colsIn(1, 1), colsIn(1, 100), colsIn(200, 1), colsIn(200, 2), colsIn(200, 100), colsIn(100, 50),
		rowsOut(1, 1), rowsOut(1, 100), rowsOut(1000, 1), rowsOut(999, 2), rowsOut(901, 100), rowsOut(902, 99), rowsOut(201, 100),
		colsOut(1, 1), colsOut(1, 100), colsOut(200, 1), colsOut(199, 2), colsOut(101, 100), colsOut(102, 99),
	} {
		if !impl.GoodTurn(g) {
			t.Errorf("GoodTurn(%v) = false", g)
		}
	}
	for _, g := range noTurns() {
		if impl.GoodTurn(g) {
			t.Errorf("GoodTurn(%v) = true", g)
		}
	}
}

func TestBackTurn(t *testing.T) {
	for _, c := range []struct{ turn, back impl.Turn }{
		{rowsIn(2, 3), rowsOut(2, 3)}, {colsIn(2, 3), colsOut(2, 3)}, {rowsIn(1, 100), rowsOut(1, 100)}, {colsIn(1, 1), colsOut(1, 1)},
		{rowsIn(901, 100), rowsOut(901, 100)}, {rowsIn(1000, 1), rowsOut(1000, 1)}, {colsIn(101, 100), colsOut(101, 100)}, {colsIn(200, 1), colsOut(200, 1)},
	} {
		if got := impl.BackTurn(c.turn); got != c.back {
			t.Errorf("BackTurn(%v) = %v, want %v", c.turn, got, c.back)
		}
		if got := impl.BackTurn(c.back); got != c.turn {
			t.Errorf("BackTurn(%v) = %v, want %v", c.back, got, c.turn)
		}
	}
	// These may be put in, but not be deleted: there are not so many.
	for _, g := range []impl.Turn{rowsIn(902, 100), rowsIn(1000, 2), rowsIn(1000, 100), colsIn(102, 100), colsIn(200, 2), colsIn(200, 100)} {
		if got := impl.BackTurn(g); got != (impl.Turn{}) {
			t.Errorf("BackTurn(%v) = %v, want none", g, got)
		}
	}
	for _, g := range noTurns() {
		if got := impl.BackTurn(g); got != (impl.Turn{}) {
			t.Errorf("BackTurn(%v) = %v, want none", g, got)
		}
	}
}

// readNodes: the nodes of a text that is a formula.
func readNodes(t *testing.T, text string) nodes {
	t.Helper()
	r := impl.ReadFormula(text)
	if r.Err != 0 {
		t.Fatalf("%q is no formula", text)
	}
	return r.Nodes
}

// turned: what a turn makes of a formula's text; an area or ref alone is turned by itself, too, and must come to the same.
func turned(t *testing.T, turn impl.Turn, text string) string {
	t.Helper()
	f := readNodes(t, text)
	g := impl.TurnFormula(turn, f)
	if len(f) == 1 && len(g) == 1 {
		checkAlone(t, turn, f[0], g[0])
	}
	return impl.FormulaText(g)
}

// checkAlone holds TurnRef and TurnArea against what became of a node.
func checkAlone(t *testing.T, turn impl.Turn, n, want impl.Node) {
	t.Helper()
	left := want.Kind == n.Kind
	switch n.Kind {
	case impl.NodRef:
		if r, ok := impl.TurnRef(turn, n.From); ok != left || r != want.From {
			t.Errorf("TurnRef(%v, %v) = %v, %v, want %v", turn, n.From, r, ok, want)
		}
	case impl.NodArea:
		a := impl.Area{From: n.From, To: n.To}
		if b, ok := impl.TurnArea(turn, a); ok != left || b.From != want.From || b.To != want.To {
			t.Errorf("TurnArea(%v, %v) = %v, %v, want %v", turn, a, b, ok, want)
		}
	}
}

var knownTurns = []struct {
	turn       impl.Turn
	text, want string
}{
	// Refs ahead of, at and behind what is put in; fixes count for nothing and stay.
	{rowsIn(3, 2), "=B2", "=B2"}, {rowsIn(3, 2), "=B3", "=B5"}, {rowsIn(3, 2), "=B4", "=B6"}, {rowsIn(3, 2), "=$B3", "=$B5"}, {rowsIn(3, 2), "=B$3", "=B$5"}, {rowsIn(3, 2), "=$B$3", "=$B$5"}, {rowsIn(3, 2), "=$B$2", "=$B$2"},
	{colsIn(3, 2), "=B2", "=B2"}, {colsIn(3, 2), "=C2", "=E2"}, {colsIn(3, 2), "=D9", "=F9"}, {colsIn(3, 2), "=$C3", "=$E3"}, {colsIn(3, 2), "=C$3", "=E$3"}, {colsIn(3, 2), "=$C$3", "=$E$3"}, {colsIn(3, 2), "=$B$3", "=$B$3"},
	{rowsIn(1, 1), "=A1", "=A2"}, {rowsIn(1, 100), "=A1", "=A101"}, {colsIn(1, 1), "=A1", "=B1"}, {colsIn(1, 100), "=A1", "=CW1"},
	// Refs ahead of, within and behind what is deleted.
	{rowsOut(3, 2), "=B2", "=B2"}, {rowsOut(3, 2), "=B3", lost}, {rowsOut(3, 2), "=B4", lost}, {rowsOut(3, 2), "=B5", "=B3"}, {rowsOut(3, 2), "=$B$4", lost}, {rowsOut(3, 2), "=$B5", "=$B3"}, {rowsOut(3, 2), "=B$5", "=B$3"},
	{colsOut(3, 2), "=B2", "=B2"}, {colsOut(3, 2), "=C2", lost}, {colsOut(3, 2), "=D2", lost}, {colsOut(3, 2), "=E2", "=C2"}, {colsOut(3, 2), "=$D$2", lost}, {colsOut(3, 2), "=$E2", "=$C2"}, {colsOut(3, 2), "=E$2", "=C$2"},
	{rowsOut(1, 1), "=A1", lost}, {rowsOut(1, 1), "=A2", "=A1"}, {rowsOut(1, 100), "=A100", lost}, {rowsOut(1, 100), "=A101", "=A1"}, {rowsOut(1000, 1), "=A1000", lost}, {rowsOut(1000, 1), "=A999", "=A999"}, {rowsOut(901, 100), "=A900", "=A900"}, {rowsOut(901, 100), "=A901", lost}, {rowsOut(900, 100), "=A1000", "=A900"},
	{colsOut(200, 1), "=GR5", lost}, {colsOut(200, 1), "=GQ5", "=GQ5"}, {colsOut(101, 100), "=CW5", lost}, {colsOut(101, 100), "=CV5", "=CV5"}, {colsOut(100, 100), "=GR5", "=CV5"},
	// Refs that are pushed to the last row or column, and beyond it.
	{rowsIn(2, 3), "=A997", "=A1000"}, {rowsIn(2, 3), "=A998", lost}, {rowsIn(2, 3), "=$A$1000", lost}, {rowsIn(1000, 1), "=A1000", lost}, {rowsIn(1000, 1), "=A999", "=A999"}, {rowsIn(1000, 100), "=A999", "=A999"}, {rowsIn(1, 100), "=A900", "=A1000"}, {rowsIn(1, 100), "=A901", lost},
	{colsIn(2, 3), "=GO1", "=GR1"}, {colsIn(2, 3), "=GP1", lost}, {colsIn(200, 1), "=GR1", lost}, {colsIn(200, 1), "=GQ1", "=GQ1"}, {colsIn(1, 100), "=CV1", "=GR1"}, {colsIn(1, 100), "=CW1", lost},
	// Areas and what is put in: ahead, at From, within, at To, behind.
	{rowsIn(1, 2), "=B2:C4", "=B4:C6"}, {rowsIn(2, 2), "=B2:C4", "=B4:C6"}, {rowsIn(3, 2), "=B2:C4", "=B2:C6"}, {rowsIn(4, 2), "=B2:C4", "=B2:C6"}, {rowsIn(5, 2), "=B2:C4", "=B2:C4"},
	{colsIn(1, 2), "=B2:D4", "=D2:F4"}, {colsIn(2, 2), "=B2:D4", "=D2:F4"}, {colsIn(3, 2), "=B2:D4", "=B2:F4"}, {colsIn(4, 2), "=B2:D4", "=B2:F4"}, {colsIn(5, 2), "=B2:D4", "=B2:D4"},
	{rowsIn(3, 2), "=$B2:C$4", "=$B2:C$6"}, {rowsIn(3, 2), "=B$2:$C4", "=B$2:$C6"}, {colsIn(3, 2), "=$B2:D$4", "=$B2:F$4"}, {colsIn(3, 2), "=B$2:$D4", "=B$2:$F4"},
	// Areas and what is deleted: an end moves inwards, to the nearest cell that is left.
	{rowsOut(1, 1), "=B2:C5", "=B1:C4"}, {rowsOut(1, 2), "=B2:C5", "=B1:C3"}, {rowsOut(2, 2), "=B2:C5", "=B2:C3"}, {rowsOut(3, 2), "=B2:C5", "=B2:C3"}, {rowsOut(4, 2), "=B2:C5", "=B2:C3"}, {rowsOut(5, 2), "=B2:C5", "=B2:C4"}, {rowsOut(6, 2), "=B2:C5", "=B2:C5"}, {rowsOut(2, 3), "=B2:C5", "=B2:C2"}, {rowsOut(3, 3), "=B2:C5", "=B2:C2"}, {rowsOut(1, 4), "=B2:C5", "=B1:C1"},
	{rowsOut(2, 4), "=B2:C5", lost}, {rowsOut(1, 5), "=B2:C5", lost}, {rowsOut(2, 5), "=B2:C5", lost}, {rowsOut(1, 100), "=B2:C5", lost}, {rowsOut(2, 1), "=B2:C2", lost}, {rowsOut(1, 100), "=B1:C100", lost}, {rowsOut(1, 100), "=B1:C101", "=B1:C1"},
	{colsOut(1, 1), "=B2:E3", "=A2:D3"}, {colsOut(1, 2), "=B2:E3", "=A2:C3"}, {colsOut(3, 2), "=B2:E3", "=B2:C3"}, {colsOut(4, 2), "=B2:E3", "=B2:C3"}, {colsOut(5, 2), "=B2:E3", "=B2:D3"}, {colsOut(6, 2), "=B2:E3", "=B2:E3"}, {colsOut(2, 3), "=B2:E3", "=B2:B3"}, {colsOut(2, 4), "=B2:E3", lost}, {colsOut(1, 5), "=B2:E3", lost}, {colsOut(2, 1), "=B2:B3", lost},
	{rowsOut(1, 2), "=$B2:C$5", "=$B1:C$3"}, {rowsOut(4, 2), "=B$2:$C5", "=B$2:$C3"}, {colsOut(1, 2), "=$B2:E$5", "=$A2:C$5"}, {colsOut(4, 2), "=B$2:$E5", "=B$2:$C5"},
	{rowsOut(901, 100), "=A1:B1000", "=A1:B900"}, {rowsOut(901, 100), "=A901:B1000", lost}, {rowsOut(901, 100), "=A900:B1000", "=A900:B900"}, {colsOut(101, 100), "=A1:GR9", "=A1:CV9"}, {colsOut(101, 100), "=CW1:GR9", lost},
	// Areas told the other way round stay so, each fix with its end.
	{rowsIn(3, 2), "=C4:B2", "=C6:B2"}, {rowsIn(3, 2), "=B4:C2", "=B6:C2"}, {rowsIn(2, 2), "=C4:B2", "=C6:B4"}, {colsIn(3, 2), "=D4:B2", "=F4:B2"}, {colsIn(3, 2), "=D2:B4", "=F2:B4"}, {colsIn(2, 2), "=D2:B4", "=F2:D4"},
	{rowsOut(1, 2), "=C5:B2", "=C3:B1"}, {rowsOut(4, 2), "=C5:B2", "=C3:B2"}, {rowsOut(4, 2), "=B5:C2", "=B3:C2"}, {rowsOut(3, 2), "=C5:B2", "=C3:B2"}, {rowsOut(2, 4), "=C5:B2", lost}, {rowsOut(3, 3), "=$C5:B$2", "=$C2:B$2"}, {rowsOut(2, 3), "=C$5:$B2", "=C$2:$B2"},
	{colsOut(1, 2), "=E5:B2", "=C5:A2"}, {colsOut(4, 2), "=E2:B5", "=C2:B5"}, {colsOut(4, 2), "=E5:B2", "=C5:B2"}, {colsOut(2, 4), "=E5:B2", lost}, {colsOut(3, 3), "=$E5:B$2", "=$B5:B$2"},
	// Areas that are pushed beyond: To, From and both, and where no row behind what is put in is left.
	{rowsIn(2, 3), "=A1:A1000", "=A1:A1000"}, {rowsIn(2, 3), "=A5:B998", "=A8:B1000"}, {rowsIn(2, 3), "=A5:B997", "=A8:B1000"}, {rowsIn(2, 3), "=A5:B996", "=A8:B999"}, {rowsIn(2, 3), "=A997:B1000", "=A1000:B1000"}, {rowsIn(2, 3), "=A998:B1000", lost}, {rowsIn(2, 3), "=A1000:A1000", lost},
	{rowsIn(950, 100), "=A1:A1000", "=A1:A949"}, {rowsIn(950, 100), "=A1:A950", "=A1:A949"}, {rowsIn(950, 100), "=A949:$A$1000", "=A949:$A$949"}, {rowsIn(950, 100), "=A950:A1000", lost}, {rowsIn(950, 100), "=A1:A949", "=A1:A949"}, {rowsIn(901, 100), "=A1:A1000", "=A1:A900"}, {rowsIn(900, 100), "=A1:A1000", "=A1:A1000"}, {rowsIn(900, 100), "=A900:A1000", "=A1000:A1000"}, {rowsIn(1000, 1), "=A1:A1000", "=A1:A999"}, {rowsIn(1000, 100), "=A999:A1000", "=A999:A999"}, {rowsIn(1000, 1), "=A1000:A1000", lost},
	{rowsIn(950, 100), "=A1000:A1", "=A949:A1"}, {rowsIn(950, 100), "=$A$1000:A949", "=$A$949:A949"}, {rowsIn(2, 3), "=B1000:A5", "=B1000:A8"}, {rowsIn(2, 3), "=B1000:A998", lost}, {rowsIn(950, 100), "=B1000:A950", lost},
	{colsIn(2, 3), "=A1:GR2", "=A1:GR2"}, {colsIn(2, 3), "=E1:GQ2", "=H1:GR2"}, {colsIn(2, 3), "=GO1:GR2", "=GR1:GR2"}, {colsIn(2, 3), "=GP1:GR2", lost}, {colsIn(150, 100), "=A1:GR2", "=A1:ES2"}, {colsIn(150, 100), "=GR2:A1", "=ES2:A1"}, {colsIn(150, 100), "=ET1:GR2", lost}, {colsIn(100, 100), "=A1:GR2", "=A1:GR2"}, {colsIn(101, 100), "=A1:GR2", "=A1:CV2"}, {colsIn(200, 1), "=A1:GR2", "=A1:GQ2"},
	// Formulas of several.
	{rowsIn(2, 3), "=A1+A2*SUM($B$2:C9,D1,,x)", "=A1+A5*SUM($B$5:C12,D1,,x)"},
	{rowsOut(2, 3), "=A1+A2*SUM($B$2:C9,D4:D2,,x)-A5%", "=A1+#REF!*SUM($B$2:C6,#REF!,,x)-A2%"},
	{colsOut(2, 1), `=IF(A1=B1,"B1",C1)&{1,-2;"B2",TRUE}`, `=IF(A1=#REF!,"B1",B1)&{1,-2;"B2",TRUE}`},
	{colsIn(1, 100), "=-CW1--(A1:B2+GR1000)", "=-#REF!--(CW1:CX2+#REF!)"},
	{rowsOut(1, 1), "=#REF!+B1+f(A1)+#N/A", "=#REF!+#REF!+F(#REF!)+#N/A"},
	{rowsIn(1, 1), "=1", "=1"}, {rowsIn(1, 1), "=x+f()", "=x+F()"},
}

func TestKnownTurns(t *testing.T) {
	for _, c := range knownTurns {
		if got := turned(t, c.turn, c.text); got != c.want {
			t.Errorf("%v makes %s of %s, want %s", c.turn, got, c.text, c.want)
		}
	}
}

// TestTurnedNodes asks for the nodes themselves, with all fields that are not told zero.
func TestTurnedNodes(t *testing.T) {
	f := op("+", refTo(cell(2, 2)), call("F", areaOf(fixed(5, 5, fixings[3]), cell(3, 3)), refTo(cell(9, 9)), areaOf(cell(2, 1), cell(2, 9))))
	want := op("+", wrong("#REF!"), call("F", areaOf(fixed(4, 5, fixings[3]), cell(2, 3)), refTo(cell(8, 9)), wrong("#REF!")))
	if got := impl.TurnFormula(rowsOut(2, 1), f); !slices.Equal(got, want) {
		t.Errorf("%v, want %v", got, want)
	}
	if r, ok := impl.TurnRef(rowsOut(2, 1), cell(2, 2)); ok || r != (impl.Ref{}) {
		t.Errorf("a ref that is taken away is %v, %v", r, ok)
	}
	if a, ok := impl.TurnArea(rowsOut(2, 1), area(2, 2, 2, 5)); ok || a != (impl.Area{}) {
		t.Errorf("an area that is taken away is %v, %v", a, ok)
	}
}

var knownFills = []struct {
	text       string
	rows, cols int
	want       string
}{
	{"=A1+$A1+A$1+$A$1", 2, 1, "=B3+$A3+B$1+$A$1"}, {"=A1+$A1+A$1+$A$1", 0, 0, "=A1+$A1+A$1+$A$1"}, {"=B2+$B2+B$2+$B$2", -1, -1, "=A1+$B1+A$2+$B$2"},
	{"=B2", -1, 0, "=B1"}, {"=B2", 0, -1, "=A2"}, {"=B2", -2, 0, lost}, {"=B2", 0, -2, lost}, {"=$B$2", -2, -2, "=$B$2"}, {"=$B2", 0, -2, "=$B2"}, {"=B$2", -2, 0, "=B$2"}, {"=$B2", -2, 0, lost}, {"=B$2", 0, -2, lost},
	{"=SUM(A1:$B$2)", 2, 1, "=SUM(B3:$B$2)"}, {"=SUM($A$1:B2)", 2, 1, "=SUM($A$1:C4)"}, {"=SUM($A1:B$2)", 2, 1, "=SUM($A3:C$2)"}, {"=SUM(C3:A1)", 1, 1, "=SUM(D4:B2)"}, {"=SUM(A3:C1)", 1, 1, "=SUM(B4:D2)"}, {"=SUM($A$2:A1)", 4, 0, "=SUM($A$2:A5)"},
	{"=A1:B2", -1, 0, lost}, {"=B2:A1", -1, 0, lost}, {"=A1:B2", 999, 0, lost}, {"=B2:A1", 999, 0, lost}, {"=A1:B2", 998, 198, "=GQ999:GR1000"}, {"=A1:B2", 0, 199, lost}, {"=$A$1:B2", 0, -1, "=$A$1:A2"}, {"=$A$1:B2", 0, -2, lost}, {"=B2:$A$1", -2, 0, lost},
	{"=A1", 999, 199, "=GR1000"}, {"=A1", 1000, 0, lost}, {"=A1", 0, 200, lost}, {"=A1", 0, 1000, lost}, {"=GR1000", -999, -199, "=A1"}, {"=GR1000", -1000, 0, lost}, {"=GR1000", 0, -200, lost}, {"=GR1000", 0, -1000, lost}, {"=GR1000", 1, 0, lost}, {"=GR1000", 0, 1, lost}, {"=A1000", 1, 0, lost}, {"=GR1", 0, 1, lost},
	{"=$A$1", 1000, 1000, "=$A$1"}, {"=$GR$1000", -1000, -1000, "=$GR$1000"}, {"=$A$1:$B$2", 1000, -1000, "=$A$1:$B$2"}, {"=1+x", 1000, 1000, "=1+x"}, {"=1+x", -1000, -1000, "=1+x"},
	{`=A1+SUM(B2:$C$3,x,,"A1")*{1,2}-#N/A`, -1, 0, `=#REF!+SUM(B1:$C$3,x,,"A1")*{1,2}-#N/A`},
	{"=-A1%^(B1:C1+A2)", 0, -1, "=-#REF!%^(A1:B1+#REF!)"},
}

func TestKnownFills(t *testing.T) {
	for _, c := range knownFills {
		if got := impl.FormulaText(impl.Filled(readNodes(t, c.text), c.rows, c.cols)); got != c.want {
			t.Errorf("%s filled by %d, %d is %s, want %s", c.text, c.rows, c.cols, got, c.want)
		}
	}
	want := op("+", wrong("#REF!"), areaOf(cell(1, 1), fixed(9, 9, fixings[3])))
	if got := impl.Filled(op("+", refTo(cell(1, 2)), areaOf(cell(2, 2), fixed(9, 9, fixings[3]))), -1, -1); !slices.Equal(got, want) {
		t.Errorf("%v, want %v", got, want)
	}
}

// moveOf: a move of an area told as a text to a place told likewise.
func moveOf(t *testing.T, from, to string) impl.Move {
	t.Helper()
	ends := strings.Split(from, ":")
	first, ok1 := impl.ReadRef(ends[0])
	last, ok2 := impl.ReadRef(ends[1])
	goal, ok3 := impl.ReadRef(to)
	if !ok1 || !ok2 || !ok3 {
		t.Fatalf("no move: %s, %s", from, to)
	}
	return impl.Move{From: impl.Area{From: first, To: last}, Row: goal.Row, Col: goal.Col}
}

var knownMoves = []struct {
	from, to   string
	text, want string
}{
	{"A1:B2", "C5", "=A1+$B$2+C3+SUM(A1:B2)+SUM(A1:A3)", "=C5+$D$6+C3+SUM(C5:D6)+SUM(A1:A3)"},
	// Refs at each corner, and those beside them; fixes count for nothing and stay.
	{"B3:D5", "F9", "=B3+D3+B5+D5+$C$4+$C4+C$4", "=F9+H9+F11+H11+$G$10+$G10+G$10"}, {"B3:D5", "F9", "=A3+E3+B2+B6+D2+D6+A5+E5", "=A3+E3+B2+B6+D2+D6+A5+E5"}, {"B3:D5", "F9", "=F9+H11", "=F9+H11"},
	{"B3:B3", "A1", "=B3+A1+B2+C3", "=A1+A1+B2+C3"}, {"B3:D5", "B3", "=B3+D5+A1", "=B3+D5+A1"}, {"B3:D5", "C4", "=B3+C4+D5+E6", "=C4+D5+E6+E6"}, {"B3:D5", "A2", "=B3+C4+A2", "=A2+B3+A2"},
	// Areas wholly in, as much as all of it, one cell, told the other way round, with fixes.
	{"B3:D5", "F9", "=B3:D5", "=F9:H11"}, {"B3:D5", "F9", "=D5:B3", "=H11:F9"}, {"B3:D5", "F9", "=B5:D3", "=F11:H9"}, {"B3:D5", "F9", "=C4:C4", "=G10:G10"}, {"B3:D5", "F9", "=$B3:D$5", "=$F9:H$11"}, {"B3:D5", "F9", "=$D$5:C4", "=$H$11:G10"},
	// Areas partly in, around it, and beside it.
	{"B3:D5", "F9", "=B3:D6", "=B3:D6"}, {"B3:D5", "F9", "=B3:E5", "=B3:E5"}, {"B3:D5", "F9", "=A3:D5", "=A3:D5"}, {"B3:D5", "F9", "=B2:D5", "=B2:D5"}, {"B3:D5", "F9", "=A1:Z99", "=A1:Z99"}, {"B3:D5", "F9", "=C1:C9", "=C1:C9"}, {"B3:D5", "F9", "=A4:Z4", "=A4:Z4"}, {"B3:D5", "F9", "=D6:B3", "=D6:B3"}, {"B3:D5", "F9", "=E3:F5", "=E3:F5"}, {"B3:D5", "F9", "=B6:D9", "=B6:D9"}, {"B3:D5", "F9", "=F9:H11", "=F9:H11"}, {"B3:D5", "F9", "=A2:A6", "=A2:A6"},
	// What is moved told the other way round: its first cell is the normal area's.
	{"D5:B3", "F9", "=B3+D5+B3:D5", "=F9+H11+F9:H11"}, {"B5:D3", "F9", "=B3+D5+C4:B5", "=F9+H11+G10:F11"}, {"$D$3:B$5", "F9", "=B3+D5+E5", "=F9+H11+E5"},
	// The last cell just fits, and does not.
	{"A1:B2", "GQ999", "=A1+B2+A1:B2", "=GQ999+GR1000+GQ999:GR1000"}, {"A1:B2", "GQ1000", "=A1+B2+A1:B2", "=A1+B2+A1:B2"}, {"A1:B2", "GR999", "=A1+B2+A1:B2", "=A1+B2+A1:B2"}, {"A1:B2", "GR1000", "=A1", "=A1"}, {"B2:A1", "GR999", "=A1", "=A1"}, {"A1:A1", "GR1000", "=A1", "=GR1000"}, {"A1:GR1000", "A1", "=C5", "=C5"}, {"A1:GR1000", "A2", "=C5", "=C5"}, {"A1:GR1000", "B1", "=C5", "=C5"}, {"A1:GR999", "A2", "=C5+A1:GR999+A1:GR1000", "=C6+A2:GR1000+A1:GR1000"}, {"GQ999:GR1000", "A1", "=GR1000+GQ999", "=B2+A1"},
	// Formulas of several.
	{"A1:B2", "D1", `=IF(A1>3,SUM(A1:B1,A1:C1,,x),"A1")&{1,-2}-#REF!`, `=IF(D1>3,SUM(D1:E1,A1:C1,,x),"A1")&{1,-2}-#REF!`},
	{"A1:B2", "D1", "=1+x", "=1+x"},
}

func TestKnownMoves(t *testing.T) {
	for _, c := range knownMoves {
		m := moveOf(t, c.from, c.to)
		f, want := readNodes(t, c.text), readNodes(t, c.want)
		if got := impl.MoveFormula(m, f); !slices.Equal(got, want) {
			t.Errorf("%s moved to %s makes %s of %s, want %s", c.from, c.to, impl.FormulaText(got), c.text, c.want)
		}
		for i, n := range f {
			if n.Kind != impl.NodRef {
				continue
			}
			if got := impl.MoveRef(m, n.From); got != want[i].From {
				t.Errorf("MoveRef(%v, %v) = %v, want %v", m, n.From, got, want[i].From)
			}
		}
	}
}

// noMoves: moves that do nothing.
func noMoves() []impl.Move {
	out := []impl.Move{{}, {Row: 1, Col: 1}}
	for _, a := range noAreas() {
		out = append(out, impl.Move{From: a, Row: 1, Col: 1})
	}
	for _, p := range noPlaces() {
		out = append(out, impl.Move{From: area(1, 1, 2, 2), Row: p.Row, Col: p.Col}, impl.Move{From: area(2, 2, 1, 1), Row: p.Row, Col: p.Col}, impl.Move{From: area(impl.MaxRow, impl.MaxCol, impl.MaxRow, impl.MaxCol), Row: p.Row, Col: p.Col})
	}
	return append(out,
		impl.Move{From: area(1, 1, 2, 1), Row: impl.MaxRow, Col: 1}, impl.Move{From: area(2, 1, 1, 1), Row: impl.MaxRow, Col: 1},
		impl.Move{From: area(1, 1, 1, 2), Row: 1, Col: impl.MaxCol}, impl.Move{From: area(1, 2, 1, 1), Row: 1, Col: impl.MaxCol},
		impl.Move{From: area(1, 1, impl.MaxRow, 1), Row: 2, Col: 1}, impl.Move{From: area(1, 1, 1, impl.MaxCol), Row: 1, Col: 2})
}

func TestMovesThatDoNothing(t *testing.T) {
	f := call("F", refTo(cell(1, 1)), refTo(fixed(2, 2, fixings[3])), areaOf(cell(2, 2), cell(1, 1)), refTo(cell(5, 5)), refTo(cell(impl.MaxRow, impl.MaxCol)), areaOf(cell(1, 1), cell(impl.MaxRow, impl.MaxCol)))
	for _, m := range noMoves() {
		for _, r := range append(noRefs(), cell(1, 1), cell(5, 5), fixed(2, 2, fixings[3]), cell(impl.MaxRow, impl.MaxCol), impl.Ref{}) {
			if got := impl.MoveRef(m, r); got != r {
				t.Fatalf("MoveRef(%v, %v) = %v, want it as it is", m, r, got)
			}
		}
		got := impl.MoveFormula(m, f)
		if !slices.Equal(got, f) {
			t.Fatalf("MoveFormula(%v, %v) = %v, want it as it is", m, f, got)
		}
		got[1] = impl.Node{}
		if f[1] != refTo(cell(1, 1))[0] {
			t.Fatalf("MoveFormula(%v, ..) hands out what it was given", m)
		}
	}
}

func TestRefsThatAreNoneStay(t *testing.T) {
	for _, m := range []impl.Move{{From: area(1, 1, 2, 2), Row: 5, Col: 5}, {From: area(1, 1, impl.MaxRow, impl.MaxCol), Row: 1, Col: 1}, {From: area(1, 1, 999, 199), Row: 2, Col: 2}} {
		for _, r := range noRefs() {
			if got := impl.MoveRef(m, r); got != r {
				t.Errorf("MoveRef(%v, %v) = %v, want it as it is", m, r, got)
			}
		}
	}
}

// wantNotTurned asks for the zero answers of a turn for a ref, an area and a formula of which at least one argument is not good.
func wantNotTurned(t *testing.T, turn impl.Turn, r impl.Ref, a impl.Area, f nodes) {
	t.Helper()
	if got, ok := impl.TurnRef(turn, r); ok || got != (impl.Ref{}) {
		t.Errorf("TurnRef(%v, %v) = %v, %v, want none", turn, r, got, ok)
	}
	if got, ok := impl.TurnArea(turn, a); ok || got != (impl.Area{}) {
		t.Errorf("TurnArea(%v, %v) = %v, %v, want none", turn, a, got, ok)
	}
	if got := impl.TurnFormula(turn, f); len(got) != 0 {
		t.Errorf("TurnFormula(%v, %v) = %v, want none", turn, f, got)
	}
}

func TestTurnsThatAreNotGood(t *testing.T) {
	for _, turn := range noTurns() {
		for _, f := range goodOnes() {
			wantNotTurned(t, turn, cell(1, 1), area(1, 1, 2, 2), f)
		}
		wantNotTurned(t, turn, cell(impl.MaxRow, impl.MaxCol), area(1, 1, impl.MaxRow, impl.MaxCol), num(1))
		wantNotTurned(t, turn, impl.Ref{}, impl.Area{}, nil)
	}
}

// noFormulas: lists of nodes that are no good formula, most with addresses.
func noFormulas() []nodes {
	ref := refTo(cell(5, 5))
	out := []nodes{
		nil, {}, {{}}, nothing(), minus(nothing()), {{Kind: 14}}, {{Kind: impl.NodMinus, Kids: 1}}, append(nodes{{Kind: impl.NodMinus, Kids: math.MaxInt}}, ref...),
		slices.Concat(ref, ref), array(1, ref), call("f", ref), call("F", nothing()), op("!", ref, ref), call("F", many(ref, impl.MaxArgs+1)...), broad(impl.MaxNodes + 1),
		{{Kind: impl.NodRef, From: cell(5, 5), To: cell(5, 5)}}, {{Kind: impl.NodRef, From: cell(5, 5), Text: "E5"}}, {{Kind: impl.NodArea, From: cell(5, 5)}}, {{Kind: impl.NodArea, From: cell(5, 5), To: cell(6, 6), Kids: 1}},
	}
	deep := ref
	for range impl.MaxDeep {
		deep = minus(deep)
	}
	out = append(out, deep)
	for _, r := range noRefs() {
		out = append(out, refTo(r), areaOf(r, cell(1, 1)), areaOf(cell(1, 1), r), op("+", ref, refTo(r)))
	}
	return out
}

func TestNotGoodAtGoodTurns(t *testing.T) {
	for _, turn := range []impl.Turn{rowsIn(2, 3), rowsOut(2, 3), colsIn(1, 100), colsOut(101, 100)} {
		for _, r := range noRefs() {
			wantNotTurned(t, turn, r, impl.Area{From: r, To: r}, nil)
		}
		for _, a := range noAreas() {
			wantNotTurned(t, turn, impl.Ref{}, a, nil)
		}
		for _, f := range noFormulas() {
			wantNotTurned(t, turn, impl.Ref{}, impl.Area{}, f)
		}
	}
}

func TestNotGoodFillsAndMoves(t *testing.T) {
	moves := append(noMoves()[:5], impl.Move{From: area(1, 1, 5, 5), Row: 7, Col: 7})
	for _, f := range noFormulas() {
		for _, n := range []int{0, 1, -1, 1000, -1000, 1001, math.MaxInt, math.MinInt} {
			if got := impl.Filled(f, n, -n); len(got) != 0 {
				t.Errorf("Filled(%v, %d, %d) = %v, want none", f, n, -n, got)
			}
		}
		for _, m := range moves {
			if got := impl.MoveFormula(m, f); len(got) != 0 {
				t.Errorf("MoveFormula(%v, %v) = %v, want none", m, f, got)
			}
		}
	}
	for _, f := range append(goodOnes(), refTo(fixed(1, 1, fixings[3]))) {
		for _, n := range append([]int{1001, -1001}, farNumbers[3:]...) {
			for _, by := range [][2]int{{n, 0}, {0, n}, {n, n}, {n, 1000}, {-1000, n}} {
				if got := impl.Filled(f, by[0], by[1]); len(got) != 0 {
					t.Errorf("Filled(%v, %d, %d) = %v, want none", f, by[0], by[1], got)
				}
			}
		}
		for _, by := range [][2]int{{1000, 1000}, {-1000, -1000}, {1000, -1000}, {0, 1000}, {-1000, 0}} {
			if got := impl.Filled(f, by[0], by[1]); len(got) != len(f) {
				t.Errorf("Filled(%v, %d, %d) = %v, want a formula", f, by[0], by[1], got)
			}
		}
	}
}

// TestGreatestFormulas asks that as many nodes as there may be, and as deep as they may be, are turned, filled and moved.
func TestGreatestFormulas(t *testing.T) {
	var args []nodes
	for range 9 {
		args = append(args, call("G", many(refTo(cell(2, 2)), impl.MaxArgs)...))
	}
	broad := call("F", append(args, many(areaOf(cell(2, 2), cell(3, 3)), impl.MaxNodes-280)...)...)
	deep := refTo(cell(2, 2))
	for range impl.MaxDeep - 1 {
		deep = minus(deep)
	}
	for _, f := range []nodes{broad, deep} {
		for _, g := range []nodes{impl.TurnFormula(rowsIn(1, 1), f), impl.TurnFormula(colsOut(2, 2), f), impl.Filled(f, 1, 1), impl.Filled(f, -5, 0), impl.MoveFormula(impl.Move{From: area(2, 2, 3, 3), Row: 7, Col: 7}, f)} {
			if len(g) != len(f) || !impl.GoodFormula(g) || slices.Equal(f, g) {
				t.Errorf("%d nodes became %d, good: %v", len(f), len(g), impl.GoodFormula(g))
			}
		}
	}
}

// TestTurnsLeaveAlone asks that nothing is written into nodes, nor into the memory behind them, and that no answer shares any.
func TestTurnsLeaveAlone(t *testing.T) {
	long := append(make(nodes, 0, 400), call("F", name("x"), areaOf(cell(3, 3), fix11), refTo(fix33), refTo(cell(1, 1)))...)
	spare := long[:cap(long)]
	spare[len(long)] = impl.Node{Kind: impl.NodName, Text: "behind"}
	before := slices.Clone(spare)
	ways := []func() nodes{
		func() nodes { return impl.TurnFormula(rowsIn(1, 1), long) },
		func() nodes { return impl.TurnFormula(rowsIn(9, 1), long) },
		func() nodes { return impl.TurnFormula(colsOut(1, 3), long) },
		func() nodes { return impl.Filled(long, 1, 1) },
		func() nodes { return impl.Filled(long, 0, 0) },
		func() nodes { return impl.Filled(long, -1, 0) },
		func() nodes { return impl.MoveFormula(impl.Move{From: area(1, 1, 3, 3), Row: 2, Col: 2}, long) },
		func() nodes { return impl.MoveFormula(impl.Move{From: area(8, 8, 9, 9), Row: 2, Col: 2}, long) },
		func() nodes { return impl.MoveFormula(impl.Move{}, long) },
	}
	for i, way := range ways {
		first := way()
		want := slices.Clone(first)
		if len(first) != len(long) {
			t.Errorf("way %d gives %v", i, first)
		}
		for j := range first {
			first[j] = impl.Node{}
		}
		_ = append(first, impl.Node{Kind: 99})
		if !slices.Equal(spare, before) {
			t.Fatalf("way %d writes into the nodes, or shares them", i)
		}
		if again := way(); !slices.Equal(again, want) {
			t.Errorf("way %d gives %v after its first answer was written into, want %v", i, again, want)
		}
	}
}
