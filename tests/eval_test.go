package tests

import (
	"cmp"
	"fmt"
	"slices"
	"strings"
	"testing"

	"loop.example/g00025/impl"
)

// sheetOf has cells and names that are told as `A1: text`, in any order, with ` | ` between; what is no address is a name.
func sheetOf(text string) impl.Sheet {
	var s impl.Sheet
	for _, line := range strings.Split(text, " | ") {
		at, inner, _ := strings.Cut(line, ": ")
		if r, ok := impl.ReadRef(at); ok {
			s.Cells = append(s.Cells, impl.Cell{Row: r.Row, Col: r.Col, Text: inner})
		} else if at != "" {
			s.Names = append(s.Names, impl.Named{Name: at, Text: inner})
		}
	}
	slices.SortFunc(s.Cells, func(a, b impl.Cell) int { return cmp.Or(a.Row-b.Row, a.Col-b.Col) })
	slices.SortFunc(s.Names, func(a, b impl.Named) int { return strings.Compare(a.Name, b.Name) })
	return s
}

func cloned(s impl.Sheet) impl.Sheet {
	return impl.Sheet{Cells: slices.Clone(s.Cells), Names: slices.Clone(s.Names)}
}

func sameSheets(a, b impl.Sheet) bool {
	return slices.Equal(a.Cells, b.Cells) && slices.Equal(a.Names, b.Names)
}

// markOf tells kinds apart: texts in `"`, an empty value as `_`.
func markOf(v impl.Value) string {
	switch v.Kind {
	case impl.ValText:
		return `"` + v.Text + `"`
	case impl.ValEmpty:
		return "_"
	}
	return impl.ShowValue(v)
}

func gridMarks(g impl.Grid) string {
	out := ""
	for i, v := range g.Cells {
		switch {
		case i == 0:
		case i%g.Cols == 0:
			out += ";"
		default:
			out += ","
		}
		out += markOf(v)
	}
	return out
}

// listMarks tells all that is shown, in order: with `=` where a cell has a text of its own, with `~` otherwise.
func listMarks(list []impl.Shown) string {
	var out []string
	for _, s := range list {
		mark := "~"
		if s.From {
			mark = "="
		}
		out = append(out, impl.RefText(cell(s.Row, s.Col))+mark+markOf(s.Value))
	}
	return strings.Join(out, " ")
}

// checkSheets has sheets, as sheetOf takes them, and all that they show.
func checkSheets(t *testing.T, sheets [][2]string) {
	t.Helper()
	for _, c := range sheets {
		s := sheetOf(c[0])
		was := cloned(s)
		if !impl.GoodSheet(s) {
			t.Errorf("%s: no good sheet", c[0])
		}
		if got := listMarks(impl.EvalSheet(s)); got != c[1] {
			t.Errorf("%s\n shows %s\n want  %s", c[0], got, c[1])
		}
		if !sameSheets(s, was) {
			t.Errorf("%s: the sheet was written into", c[0])
		}
	}
}

// checkFormulas has formulas, without `=`, and what they give, at a cell without a text.
func checkFormulas(t *testing.T, sheet string, formulas [][2]string) {
	t.Helper()
	s := sheetOf(sheet)
	if !impl.GoodSheet(s) {
		t.Fatalf("%s: no good sheet", sheet)
	}
	for _, c := range formulas {
		g := impl.EvalFormula(s, 500, 100, "="+c[0])
		if got := gridMarks(g); got != c[1] || !impl.GoodGrid(g) {
			t.Errorf("%s gives %s, want %s", c[0], got, c[1])
		}
	}
}

func TestConstantsOfSheets(t *testing.T) {
	got := []int{impl.MaxCells, impl.MaxNamed, impl.MaxSteps, impl.MaxCalls}
	if want := []int{300, 40, 20000, 60}; !slices.Equal(got, want) {
		t.Errorf("%v, want %v", got, want)
	}
}

// manyCells has so many, in rows of 20.
func manyCells(n int, text string) []impl.Cell {
	var out []impl.Cell
	for i := range n {
		out = append(out, impl.Cell{Row: 1 + i/20, Col: 1 + i%20, Text: text})
	}
	return out
}

func manyNames(n int, text string) []impl.Named {
	var out []impl.Named
	for i := range n {
		out = append(out, impl.Named{Name: fmt.Sprintf("N_%03d", i), Text: text})
	}
	return out
}

// goodSheets: sheets at the edges of what is good.
func goodSheets() []impl.Sheet {
	out := []impl.Sheet{
		{}, {Cells: []impl.Cell{}, Names: []impl.Named{}},
		{Cells: []impl.Cell{{Row: 1, Col: 1, Text: "x"}, {Row: 1, Col: 200, Text: " "}, {Row: 2, Col: 1, Text: "~"}, {Row: 1000, Col: 1, Text: "'"}, {Row: 1000, Col: 200, Text: "="}}},
		{Cells: manyCells(300, "1")}, {Names: manyNames(40, "=1")}, {Cells: manyCells(300, "=N_001"), Names: manyNames(40, "=N_002+1")},
		{Cells: []impl.Cell{{Row: 1, Col: 1, Text: letters(2000)}, {Row: 1, Col: 2, Text: "=" + strings.Repeat(" ", 1998) + "1"}}},
		{Names: []impl.Named{{Name: "LONG", Text: "=" + letters(1999)}}}, {Cells: []impl.Cell{{Row: 3, Col: 3, Text: allBytes()}}},
	}
	for _, name := range []string{"A", "X", "_", "_A", "A_1", "A.B", "ABS_", "IFS", "SUMS", "LAMBDAS", "LE", "T", "XFD_1", "GS1", "A1001", strings.Repeat("N", 20), "RX", "_R1C1", "TRUES"} {
		out = append(out, impl.Sheet{Names: []impl.Named{{Name: name, Text: "="}}})
	}
	return append(out, sheetOf("A: =1 | A.: =1 | A0: =1 | AA: =1 | A_: =1 | B: =1 | _: =1"))
}

// noSheets: sheets that are not good, in one way each.
func noSheets() []impl.Sheet {
	out := []impl.Sheet{{Cells: manyCells(301, "1")}, {Names: manyNames(41, "=1")}, {Cells: manyCells(1000, "1")}, {Names: manyNames(999, "=1")}}
	for _, r := range noPlaces() {
		out = append(out, impl.Sheet{Cells: []impl.Cell{{Row: r.Row, Col: r.Col, Text: "1"}}}, impl.Sheet{Cells: []impl.Cell{{Row: 1, Col: 1, Text: "1"}, {Row: r.Row, Col: r.Col, Text: "1"}}})
	}
	// Cells that do not rise, and such that are there twice.
	for _, c := range [][4]int{{2, 1, 1, 1}, {1, 2, 1, 1}, {1, 1, 1, 1}, {2, 1, 1, 2}, {2, 1, 1, 200}, {1000, 200, 1000, 200}, {1000, 200, 1000, 199}} {
		out = append(out, impl.Sheet{Cells: []impl.Cell{{Row: c[0], Col: c[1], Text: "1"}, {Row: c[2], Col: c[3], Text: "2"}}})
	}
	swapped := manyCells(300, "1")
	swapped[298], swapped[299] = swapped[299], swapped[298]
	out = append(out, impl.Sheet{Cells: swapped})
	for _, text := range []string{"", letters(2001), "=" + strings.Repeat(" ", 1999) + "1", "\x00", "a\x1f", "\x7f", "=1\n", "=\t1", "\xff", "=\u00e9", letters(100000)} {
		out = append(out, impl.Sheet{Cells: []impl.Cell{{Row: 1, Col: 1, Text: text}}}, impl.Sheet{Names: []impl.Named{{Name: "A", Text: text}}})
	}
	for _, text := range []string{"1", "x", " =1", "'=1", "TRUE"} {
		out = append(out, impl.Sheet{Names: []impl.Named{{Name: "A", Text: text}}})
	}
	names := []string{"", " ", "a", "aB", "Ab", "A1", "GR1000", "R", "C", "RC", "R1C1", "R5", "C7", "R99999C99999", "TRUE", "FALSE", "1", "1A", ".A", "A B", "A-", "A$", "$A", "$A$1", "A\x00", "\xff", "\u00c4", strings.Repeat("N", 21), strings.Repeat("N", 5000), "IF", "IFERROR", "LET", "LAMBDA", "MAP", "REDUCE", "BYROW"}
	for _, name := range append(names, impl.FunctionNames()...) {
		out = append(out, impl.Sheet{Names: []impl.Named{{Name: name, Text: "=1"}}}, impl.Sheet{Cells: manyCells(2, "1"), Names: []impl.Named{{Name: "", Text: "=1"}, {Name: name, Text: "=1"}}})
	}
	for _, pair := range [][2]string{{"B", "A"}, {"A", "A"}, {"AA", "A"}, {"_", "Z"}, {"A_", "AA"}, {"A0", "A."}} {
		out = append(out, impl.Sheet{Names: []impl.Named{{Name: pair[0], Text: "=1"}, {Name: pair[1], Text: "=1"}}})
	}
	return out
}

func TestGoodSheet(t *testing.T) {
	for _, s := range goodSheets() {
		if !impl.GoodSheet(s) {
			t.Errorf("GoodSheet(%v) = false", s)
		}
	}
	for _, s := range noSheets() {
		if impl.GoodSheet(s) {
			t.Errorf("GoodSheet(%v) = true", s)
		}
	}
}

func TestSheetsThatAreNotGood(t *testing.T) {
	for _, s := range noSheets() {
		was := cloned(s)
		if list := impl.EvalSheet(s); len(list) != 0 {
			t.Errorf("EvalSheet(%v) = %v", s, list)
		}
		for _, text := range []string{"=1", "=A1", "1", ""} {
			wantNoGrid(t, impl.EvalFormula(s, 1, 1, text))
		}
		if !sameSheets(s, was) {
			t.Errorf("%v was written into", was)
		}
	}
}

func TestTypedCells(t *testing.T) {
	checkSheets(t, [][2]string{
		{"", ""},
		{"A1: 12 | B1: -0.50 | C1: 1e3 | D1: abc | E1: true | F1: FALSE | G1: #N/A | H1: #n/a | I1: 'x | J1: ' | K1: '5 | L1: ''a", `A1=12 B1=-0.5 C1=1000 D1="abc" E1=TRUE F1=FALSE G1=#N/A H1="#n/a" I1="x" J1="" K1="5" L1="'a"`},
		{"A1: '=1+1 | A2:  =1 | A3:   | GR1000: x", `A1="=1+1" A2=" =1" A3=" " GR1000="x"`},
		{"C3: 1 | B3: 2 | A4: 3 | C2: 4", "C2=4 B3=2 C3=1 A4=3"},
		{"A1: #CYCLE! | A2: #SPILL! | A3: =A1 | A4: =A2", "A1=#CYCLE! A2=#SPILL! A3=#CYCLE! A4=#SPILL!"},
	})
	long := impl.EvalSheet(impl.Sheet{Cells: []impl.Cell{{Row: 1, Col: 1, Text: letters(1000)}, {Row: 2, Col: 1, Text: letters(1001)}, {Row: 3, Col: 1, Text: "'" + letters(1000)}, {Row: 4, Col: 1, Text: letters(2000)}, {Row: 5, Col: 1, Text: "=LEN(A1)"}, {Row: 6, Col: 1, Text: "=A1&A1"}}})
	for row, want := range []impl.Value{wordsVal(letters(1000)), notThis, wordsVal(letters(1000)), notThis, numVal("1000"), notThis} {
		wantValue(t, "the cell of row", row+1, impl.ValueAt(long, row+1, 1), want)
	}
}

func TestFormulasInCells(t *testing.T) {
	checkSheets(t, [][2]string{
		{"B2: 5 | A2: =B2 | C2: =B2 | B1: =B2 | B3: =B2", "B1=5 A2=5 B2=5 C2=5 B3=5"},
		{"A1: =B1+1 | B1: =C1+1 | C1: =D1+1 | D1: 1", "A1=4 B1=3 C1=2 D1=1"},
		{"A1: 1 | A2: =A1*2 | A3: =A2*2 | A4: =SUM(A1:A3)", "A1=1 A2=2 A3=4 A4=7"},
		{"A4: 1 | A3: =A4*2 | A2: =A3*2 | A1: =SUM(A2:A4)", "A1=7 A2=4 A3=2 A4=1"},
		{"A1: =B2+$B2+B$2+$B$2 | B2: 1", "A1=4 B2=1"},
		{"A1: = b2 + 1 | B2: x | C1: =b2&B2", `A1=#VALUE! C1="xx" B2="x"`},
		{"A1: =1+ | B1: = | C1: =A1 | D1: =SUM(A1) | E1: =ISERROR(A1) | F1: =nosuch | G1: =NOSUCH(1) | H1: ==1", "A1=#NAME? B1=#NAME? C1=#NAME? D1=#NAME? E1=TRUE F1=#NAME? G1=#NAME? H1=#NAME?"},
		{"A1: =1/0 | B1: =A1+1 | C1: =IFERROR(B1,7) | D1: =C1", "A1=#DIV/0! B1=#DIV/0! C1=7 D1=7"},
		// What is needed by two is what it is for both.
		{"A1: =B1+B1 | B1: =C1+C1 | C1: =D1+D1 | D1: 1 | E1: =A1+B1+C1+D1", "A1=8 B1=4 C1=2 D1=1 E1=15"},
		{"A1: =TAX*B1 | B1: 8 | TAX: =0.25 | C1: =tax | D1: =Tax%", "A1=2 B1=8 C1=0.25 D1=0.0025"},
		{"A1: =TOTAL | B1: 1 | B2: =B1+1 | TOTAL: =SUM(B1:B2)", "A1=3 B1=1 B2=2"},
		{"A1: =TWICE(B1) | B1: 4 | TWICE: =LAMBDA(x,x*2)", "A1=8 B1=4"},
		{"A1: ={5} | B1: =SUM({1,2;3,4}) | C1: =\"a\"&\"b\" | D1: =TRUE | E1: =#N/A | F1: =-1 | G1: =-2^2", `A1=5 B1=10 C1="ab" D1=TRUE E1=#N/A F1=-1 G1=4`},
	})
	if impl.ReadFormula("==1").Err == 0 {
		t.Error("==1 is a formula")
	}
}

func TestEmptyAnswers(t *testing.T) {
	checkSheets(t, [][2]string{
		{"A1: =Z9", "A1=0"}, {"A1: =IF(TRUE,)", "A1=0"}, {"A1: =IF(FALSE,1,)", "A1=0"}, {"A1: =LET(a,,a)", "A1=0"}, {"A1: =N | N: =Z9", "A1=0"}, {"A1: =CHOOSE(1,Z9)", "A1=0"}, {"A1: =IFERROR(Z9,1)", "A1=0"},
		{"A1: =D1:E2", "A1=0 B1~0 A2~0 B2~0"}, {"A1: =D1:E2 | D1: x | E2: 5", `A1="x" B1~0 D1="x" A2~0 B2~5 E2=5`},
		{"A1: =HSTACK(1,Z9,\"\")", `A1=1 B1~0 C1~""`},
		// They are 0 where a cell shows them, and empty within a formula, and of a name.
		{"A1: =Z9 | B1: =ISBLANK(A1) | C1: =ISBLANK(Z9) | D1: =ISBLANK(N) | E1: =COUNTBLANK(A1:A2) | N: =Z9", "A1=0 B1=FALSE C1=TRUE D1=TRUE E1=1"},
		{"A1: =Z1:Z2 | B1: =ISBLANK(A2) | C1: =ISBLANK(A3)", "A1=0 B1=FALSE C1=TRUE A2~0"},
		{"A1: =Z9&\"\" | B1: =ISBLANK(A1)", `A1="" B1=FALSE`},
	})
}

const plainSheet = "A1: 2 | A2: 3 | B1: x | B2: TRUE | B3: #N/A | C1: =A1*10 | C2: =1/0 | D1: ={7,8}"

func TestAtoms(t *testing.T) {
	checkFormulas(t, plainSheet, [][2]string{
		{"1", "1"}, {"0.50", "0.5"}, {`"a""b"`, `"a"b"`}, {`""`, `""`}, {"true", "TRUE"}, {"FALSE", "FALSE"}, {"#n/a", "#N/A"}, {"#CYCLE!", "#CYCLE!"}, {"#SPILL!", "#SPILL!"}, {"#NULL!", "#NULL!"},
		{"A1", "2"}, {"$A$2", "3"}, {"b1", `"x"`}, {"B2", "TRUE"}, {"B3", "#N/A"}, {"C1", "20"}, {"C2", "#DIV/0!"}, {"D1", "7"}, {"E1", "8"}, {"F1", "0"}, {"GR1000", "0"},
		{"A1:A2", "2;3"}, {"A1:B2", `2,"x";3,TRUE`}, {"B2:A1", `2,"x";3,TRUE`}, {"A2:B1", `2,"x";3,TRUE`}, {"$B$1:A2", `2,"x";3,TRUE`}, {"D1:F1", "7,8,0"}, {"A1:A1", "2"}, {"A3:B3", "0,#N/A"},
		{"{1,-2;\"a\",TRUE;#N/A,0.5}", `1,-2;"a",TRUE;#N/A,0.5`}, {"{-0}", "0"}, {"{1}", "1"},
		{"ROWS(A1:B1000)", "1000"}, {"COLUMNS(A1:B1000)", "2"}, {"ROWS(A1:GR10)", "10"}, {"A1:C1000", "#VALUE!"}, {"ROWS(A1:C1000)", "1"}, {"A1:GR11", "#VALUE!"}, {"ISERROR(A1:C667)", "TRUE"}, {"SUM(A1:C667)", "#VALUE!"}, {"COUNT(C1:E666)", "3"}, {"GR1000:A1", "#VALUE!"},
	})
}

func TestSignsOverGrids(t *testing.T) {
	checkFormulas(t, plainSheet, [][2]string{
		{"-A1", "-2"}, {"--A1", "2"}, {"-B1", "#VALUE!"}, {"-B2", "-1"}, {"-B3", "#N/A"}, {"-Z9", "0"}, {"-\"5\"", "-5"}, {"-A1:B2", "-2,#VALUE!;-3,-1"}, {"-{1,-2}", "-1,2"},
		{"A1%", "0.02"}, {"A1%%", "0.0002"}, {"B1%", "#VALUE!"}, {"B2%", "0.01"}, {"{100,200}%", "1,2"}, {"-A1%", "-0.02"}, {"Z9%", "0"}, {"C2%", "#DIV/0!"},
		{"A1:A2*10", "20;30"}, {"10*A1:A2", "20;30"}, {"{1,2}+{10;20}", "11,12;21,22"}, {"{1,2}-{10,20,30}", "-9,-18,#N/A"}, {"{1,2}*2", "2,4"}, {"{1,2}/{0,4}", "#DIV/0!,0.5"}, {"{2,3}^2", "4,9"}, {"{1,\"b\"}&{\"x\";2}", `"1x","bx";"12","b2"`},
		{"{1,2,3}=2", "FALSE,TRUE,FALSE"}, {"{1,2,3}<2", "TRUE,FALSE,FALSE"}, {"{1,2,3}>2", "FALSE,FALSE,TRUE"}, {"{1,2,3}<=2", "TRUE,TRUE,FALSE"}, {"{1,2,3}>=2", "FALSE,TRUE,TRUE"}, {"{1,2,3}<>2", "TRUE,FALSE,TRUE"},
		{"Z9=0", "TRUE"}, {"Z9=\"\"", "TRUE"}, {"Z9=FALSE", "TRUE"}, {"Z9=Z8", "TRUE"}, {"Z9+Z8", "0"}, {"Z9&Z8", `""`}, {"Z9/Z8", "#DIV/0!"}, {"Z9^Z8", "#NUM!"},
		// Of two errors the left one, wherever the others stand.
		{"C2+B3", "#DIV/0!"}, {"B3+C2", "#N/A"}, {"B1+C2", "#DIV/0!"}, {"1+(B3+C2)", "#N/A"}, {"A1:A2+B2:B3", "3;#N/A"},
		{"ROWS(SEQUENCE(1000)+SEQUENCE(1,2))", "1000"}, {"SEQUENCE(1000)+SEQUENCE(1,3)", "#VALUE!"}, {"SEQUENCE(2000)&SEQUENCE(1,2)", "#VALUE!"}, {"SEQUENCE(45)=SEQUENCE(1,45)", "#VALUE!"}, {"COUNT(-SEQUENCE(2000)%)", "2000"},
	})
}

func TestFunctionsOfCells(t *testing.T) {
	checkFormulas(t, plainSheet, [][2]string{
		{"SUM(A1:A2,5)", "10"}, {"SUM(A1:B2)", "5"}, {"SUM(A1:B3)", "#N/A"}, {"COUNTA(A1:C3)", "7"}, {"COUNTBLANK(A1:C3)", "2"}, {"COUNT(D1:E1)", "2"}, {"MAX(C1,A1:A2)", "20"}, {"ROUND(A2/A1,0)", "2"}, {"sum(a1:A2)", "5"}, {"TRANSPOSE(A1:B2)", `2,3;"x",TRUE`},
		{"ISBLANK(F1:G1)", "TRUE,TRUE"}, {"ISBLANK(A1:F1)", "FALSE,FALSE,FALSE,FALSE,FALSE,TRUE"}, {"ISERROR(C1:C2)", "FALSE;TRUE"}, {"LEN(B1:B2)", "1;4"}, {"VLOOKUP(3,A1:B2,2,FALSE)", "TRUE"}, {"INDEX(A1:B2,2,1)", "3"}, {"MATCH(3,A1:A2,0)", "2"}, {"COUNTIF(A1:A3,\">2\")", "1"},
		{"SUM(1,,2)", "3"}, {"COUNTA(1,,2)", "2"}, {"ISBLANK(CHOOSE(2,1,))", "TRUE"}, {"ROUND(2.5,)", "3"}, {"SEQUENCE(2,2,,5)", "0,5;10,15"}, {"CONCAT(,)", `""`},
		{"SUM()", "#VALUE!"}, {"ABS(1,2)", "#VALUE!"}, {"ROUND(1)", "#VALUE!"}, {"ABS(C2)", "#DIV/0!"}, {"ABS(SUM())", "#VALUE!"}, {"SEQUENCE(2000,2)", "#VALUE!"}, {"SUM(" + strings.Repeat("1,", 29) + "1)", "30"},
		{"NOSUCH()", "#NAME?"}, {"NOSUCH(C2)", "#NAME?"}, {"SUM", "#NAME?"}, {"sum+1", "#NAME?"}, {"IF", "#NAME?"}, {"LAMBDA", "#NAME?"}, {"XLOOKUP(1,2)", "#NAME?"},
	})
	// Every function is there.
	for _, name := range impl.FunctionNames() {
		least, _ := impl.ArgCount(name)
		args := make([]impl.Grid, least)
		for i := range args {
			args[i] = gridOf("2")
		}
		text := "=" + name + "(" + strings.TrimSuffix(strings.Repeat("2,", least), ",") + ")"
		wantGrid(t, "EvalFormula", text, impl.EvalFormula(impl.Sheet{}, 1, 1, text), impl.CallFunction(name, args))
	}
}

func TestEvalFormula(t *testing.T) {
	s := sheetOf(plainSheet + " | A9: =A9 | N: =A1+1")
	for _, c := range []struct{ at, text, want string }{
		// The place counts for nothing, with a text and without one; a cell's own value is what is shown there.
		{"A1", "=A1+1", "3"}, {"C1", "=C1+1", "21"}, {"A9", "=A9", "#CYCLE!"}, {"A9", "=ISERROR(A9)", "TRUE"}, {"D1", "=SUM(D1:E1)", "15"}, {"E1", "=E1*2", "16"}, {"Z9", "=Z9", "0"}, {"B2", "=N", "3"}, {"GR1000", "=N", "3"}, {"A1", "=N+A1", "5"},
		// Nothing is laid down, and so there is nothing in its way.
		{"A1", "={1,2;3,4}", "1,2;3,4"}, {"GR1000", "={1,2;3,4}", "1,2;3,4"}, {"D1", "={7,8,9}", "7,8,9"}, {"A1", "=Y1:Z2", "0,0;0,0"},
		{"A1", "", "#NAME?"}, {"A1", "1", "#NAME?"}, {"A1", "A1", "#NAME?"}, {"A1", " =1", "#NAME?"}, {"A1", "=", "#NAME?"}, {"A1", "=1+", "#NAME?"}, {"A1", "=\x00", "#NAME?"}, {"A1", "=\"\xff\"", "#NAME?"}, {"A1", "'=1", "#NAME?"},
		{"A1", "=" + strings.Repeat(" ", 1998) + "1", "1"}, {"A1", "=" + strings.Repeat(" ", 1999) + "1", "#NAME?"}, {"A1", "=RC", "#NAME?"}, {"A1", "=1" + strings.Repeat("+1", 39), "40"}, {"A1", "=1" + strings.Repeat("+1", 40), "#NAME?"},
	} {
		r, _ := impl.ReadRef(c.at)
		was := cloned(s)
		if got := gridMarks(impl.EvalFormula(s, r.Row, r.Col, c.text)); got != c.want {
			t.Errorf("%s at %s gives %s, want %s", c.text, c.at, got, c.want)
		}
		if !sameSheets(s, was) {
			t.Errorf("%s wrote into the sheet", c.text)
		}
	}
	for _, r := range noPlaces() {
		for _, text := range []string{"=1", "=A1", "", "1"} {
			wantNoGrid(t, impl.EvalFormula(s, r.Row, r.Col, text))
		}
	}
}

func TestValueAt(t *testing.T) {
	list := impl.EvalSheet(sheetOf("A1: 1 | B2: ={x} | C3: ={5,6;7,8} | GR1000: end"))
	for _, c := range []struct {
		row, col int
		want     impl.Value
	}{
		{1, 1, numVal("1")}, {2, 2, noSign}, {3, 3, numVal("5")}, {3, 4, numVal("6")}, {4, 3, numVal("7")}, {4, 4, numVal("8")}, {1000, 200, wordsVal("end")},
		{1, 2, empty}, {2, 1, empty}, {5, 3, empty}, {999, 200, empty}, {0, 0, empty}, {-1, -1, empty}, {1001, 1, empty}, {1 << 40, 1 << 40, empty},
	} {
		wantValue(t, "ValueAt", []int{c.row, c.col}, impl.ValueAt(list, c.row, c.col), c.want)
		wantValue(t, "ValueAt of nothing", []int{c.row, c.col}, impl.ValueAt(nil, c.row, c.col), empty)
	}
	slices.Reverse(list)
	wantValue(t, "ValueAt", "a list in another order", impl.ValueAt(list, 4, 3), numVal("7"))
	was := slices.Clone(list)
	for _, r := range noPlaces() {
		wantValue(t, "ValueAt", r, impl.ValueAt(list, r.Row, r.Col), empty)
	}
	if !slices.Equal(list, was) {
		t.Error("the list was written into")
	}
}

// TestSheetsAreNewMemory writes into answers, and asks again.
func TestSheetsAreNewMemory(t *testing.T) {
	s := sheetOf(plainSheet)
	first, want := impl.EvalSheet(s), impl.EvalSheet(s)
	for i := range first {
		first[i] = impl.Shown{}
	}
	if got := impl.EvalSheet(s); !slices.Equal(got, want) {
		t.Errorf("%v, want %v", got, want)
	}
	for _, text := range []string{"=A1:B2", "={1,2}", "=LET(a,{1,2},a)", "=IF(TRUE,A1:B2)", "=A1"} {
		g, wantG := impl.EvalFormula(s, 1, 1, text), impl.EvalFormula(s, 1, 1, text)
		for i := range g.Cells {
			g.Cells[i] = impl.Value{}
		}
		wantGrid(t, "EvalFormula", text, impl.EvalFormula(s, 1, 1, text), wantG)
	}
}

func TestGreatSheets(t *testing.T) {
	s := impl.Sheet{Cells: manyCells(300, "=N_000+1"), Names: manyNames(40, "=1")}
	for i := range 39 {
		s.Names[i].Text = fmt.Sprintf("=N_%03d+1", i+1)
	}
	list := impl.EvalSheet(s)
	if len(list) != 300 {
		t.Fatalf("%d are shown", len(list))
	}
	for _, shown := range list {
		if shown.Value != numVal("41") || !shown.From {
			t.Errorf("%v", shown)
		}
	}
	// Each needs the one behind it, and all behind it.
	for i := range s.Cells {
		s.Cells[i] = impl.Cell{Row: i + 1, Col: 1, Text: fmt.Sprintf("=A%d+1", i+2)}
	}
	if got := impl.ValueAt(impl.EvalSheet(s), 1, 1); got != numVal("300") {
		t.Errorf("a long way: %v", got)
	}
	for i := range s.Cells {
		s.Cells[i].Text = fmt.Sprintf("=1+SUM(A%d:A1000)", i+2)
	}
	if got := impl.ValueAt(impl.EvalSheet(s), 281, 1); got != numVal("524288") {
		t.Errorf("sums of all below: %v", got)
	}
	s.Cells[299].Text = "=A1"
	for _, shown := range impl.EvalSheet(s) {
		if shown.Value != errVal("#CYCLE!") {
			t.Errorf("a long way round: %v", shown)
		}
	}
}
