package tests

import (
	"slices"
	"strings"
	"testing"

	"loop.example/g00025/impl"
)

func wantSheetOf(t *testing.T, what any, list [][]string, want impl.Sheet) {
	t.Helper()
	was := clonedRows(list)
	if got := impl.SheetOfRows(list); !sameSheets(got, want) {
		t.Errorf("%.200v: the sheet has %d cells, %.300s, want %d, %.300s", what, len(got.Cells), toldSheet(got), len(want.Cells), toldSheet(want))
	}
	if !sameRows(list, was) {
		t.Errorf("%.200v was written into", what)
	}
}

func TestSheetOfRows(t *testing.T) {
	for _, c := range []struct {
		list [][]string
		want string
	}{
		{nil, ""}, {rows(row()), ""}, {rows(row("")), ""}, {rows(row("", ""), row(), row("")), ""}, {rows(row("a")), "A1: a"}, {rows(row("a", "b"), row("c", "d")), "A1: a | B1: b | A2: c | B2: d"},
		// Fields that are empty, and rows of unlike lengths.
		{rows(row("a", "", "b")), "A1: a | C1: b"}, {rows(row("", "a")), "B1: a"}, {rows(row("a", "")), "A1: a"}, {rows(row("a"), row(), row("b")), "A1: a | A3: b"}, {rows(nil, row("", "", "a"), row("b")), "C2: a | A3: b"}, {rows(row("a", "b", "c"), row("d"), row("e", "f")), "A1: a | B1: b | C1: c | A2: d | A3: e | B3: f"}, {rows(row("a"), row("b", "c"), row("", "", "d")), "A1: a | A2: b | B2: c | C3: d"},
		// Texts are as they are but for a first byte that would mean something.
		{rows(row("1", "-2.50", "TRUE", "#N/A", "x y")), "A1: 1 | B1: -2.50 | C1: TRUE | D1: #N/A | E1: x y"}, {rows(row("=1+1")), "A1: '=1+1"}, {rows(row("=")), "A1: '="}, {rows(row("'")), "A1: ''"}, {rows(row("''")), "A1: '''"}, {rows(row("'=1", "=x", "'x")), "A1: ''=1 | B1: '=x | C1: ''x"}, {rows(row(" =1", "x'", "1=1", "\"", "-=", ",")), "A1:  =1 | B1: x' | C1: 1=1 | D1: \" | E1: -= | F1: ,"}, {rows(row(" ")), "A1:  "},
	} {
		wantSheetOf(t, c.list, c.list, sheetOf(c.want))
	}
}

// fieldAt has one field at a place, and empty ones ahead of it.
func fieldAt(row, col int, field string) [][]string {
	out := make([][]string, row)
	out[row-1] = make([]string, col)
	out[row-1][col-1] = field
	return out
}

func TestBoundsOfSheetsOfRows(t *testing.T) {
	none := impl.Sheet{}
	alone := func(row, col int, text string) impl.Sheet {
		return impl.Sheet{Cells: []impl.Cell{{Row: row, Col: col, Text: text}}}
	}
	// Rows and columns: empty fields beyond the last ones count for nothing.
	wantSheetOf(t, "the last place", fieldAt(1000, 200, "x"), alone(1000, 200, "x"))
	for _, r := range [][2]int{{1001, 1}, {1001, 200}, {1, 201}, {1000, 201}, {5000, 1}, {1, 5000}} {
		wantSheetOf(t, r, fieldAt(r[0], r[1], "x"), none)
		wantSheetOf(t, r, fieldAt(r[0], r[1], ""), none)
		far := fieldAt(r[0], r[1], "")
		far[0] = append(row("x"), far[0]...)
		wantSheetOf(t, r, far, alone(1, 1, "x"))
	}
	// Cells.
	full := slices.Repeat(rows(slices.Repeat(row("1"), 20)), 15)
	wantSheetOf(t, "300 cells", full, impl.Sheet{Cells: manyCells(300, "1")})
	wantSheetOf(t, "301 cells", append(full, row("1")), none)
	wantSheetOf(t, "300 cells and empty ones", append(full, row("", "")), impl.Sheet{Cells: manyCells(300, "1")})
	wantSheetOf(t, "100000 cells", slices.Repeat(rows(slices.Repeat(row("1"), 100)), 1000), none)
	// Bytes: what is put ahead counts.
	for _, c := range [][2]string{{letters(2000), letters(2000)}, {"=" + letters(1998), "'=" + letters(1998)}, {"'" + letters(1998), "''" + letters(1998)}} {
		wantSheetOf(t, "as many bytes as may be", rows(row("", c[0])), alone(1, 2, c[1]))
		wantSheetOf(t, "one byte more", rows(row("", c[0]+"x")), none)
	}
	wantSheetOf(t, "many bytes", rows(row("a"), row(letters(1000000))), none)
	for b := range 256 {
		one := string([]byte{byte(b)})
		want, around := none, none
		if 32 <= b && b <= 126 {
			want, around = alone(1, 1, one), alone(1, 1, "a"+one+"b")
		}
		if one == "=" || one == "'" {
			want = alone(1, 1, "'"+one)
		}
		wantSheetOf(t, b, rows(row(one)), want)
		wantSheetOf(t, b, rows(row("a"+one+"b")), around)
	}
	for _, text := range badTexts() {
		wantSheetOf(t, text, rows(row("a", "b"), row("c", text)), none)
	}
}

func wantRowsOf(t *testing.T, s impl.Sheet, want [][]string) {
	t.Helper()
	was := cloned(s)
	if got := impl.RowsOfSheet(s); !sameRows(got, want) {
		t.Errorf("%.300s: %d rows, %.300q, want %d, %.300q", toldSheet(s), len(got), got, len(want), want)
	}
	if !sameSheets(s, was) {
		t.Errorf("%.300s was written into", toldSheet(was))
	}
}

func TestRowsOfSheet(t *testing.T) {
	for _, c := range []struct {
		sheet string
		want  [][]string
	}{
		// Nothing is shown.
		{"", nil}, {"FOO: =1 | X: =A1", nil},
		{"A1: a", rows(row("a"))}, {"A1: a | B1: b | A2: c | B2: d", rows(row("a", "b"), row("c", "d"))}, {"A1: a | B2: d", rows(row("a", ""), row("", "d"))},
		// From the first row and column on, whatever is there; all rows have the same length.
		{"B2: x", rows(row("", ""), row("", "x"))}, {"C1: x", rows(row("", "", "x"))}, {"A3: x", rows(row(""), row(""), row("x"))}, {"C1: x | A3: y", rows(row("", "", "x"), row("", "", ""), row("y", "", ""))}, {"A1: a | C2: b | B3: c", rows(row("a", "", ""), row("", "", "b"), row("", "c", ""))},
		// An empty text is something that is shown.
		{"B2: '", rows(row("", ""), row("", ""))}, {"A1: x | C1: '", rows(row("x", "", ""))}, {"A1: x | A2: =\"\"", rows(row("x"), row(""))},
		// Numbers, bools, errors and texts.
		{"A1: 1.50 | B1: 1e20 | C1: -0.000001 | D1: 007", rows(row("1.5", "1E+20", "-1E-6", "7"))}, {"A1: true | B1: FALSE | C1: #N/A | D1: #CYCLE! | E1: #n/a", rows(row("TRUE", "FALSE", "#N/A", "#CYCLE!", "#n/a"))}, {"A1: '5 | B1: ''x | C1: '=1 | D1:  x ", rows(row("5", "'x", "=1", " x "))},
		{"A1: =1/0 | B1: =A1 | C1: =C1 | D1: =nosuch | E1: =1+ | F1: =\"a\"&1 | G1: =1<2 | H1: =2/3", rows(row("#DIV/0!", "#DIV/0!", "#CYCLE!", "#NAME?", "#NAME?", "a1", "TRUE", "0.666666666666667"))}, {"A1: =Z9 | B1: =N | N: =A1+5", rows(row("0", "5"))},
		// What is laid down.
		{"A1: ={1,2;3,4}", rows(row("1", "2"), row("3", "4"))}, {"B2: =SEQUENCE(2,2)", rows(row("", "", ""), row("", "1", "2"), row("", "3", "4"))}, {"A1: =HSTACK(1,Z9,\"\")", rows(row("1", "0", ""))}, {"A1: ={1,2} | B1: x", rows(row("#SPILL!", "x"))}, {"A1: ={1;2} | B1: =A2", rows(row("1", "2"), row("2", ""))},
	} {
		wantRowsOf(t, sheetOf(c.sheet), c.want)
	}
}

func TestBoundsOfRowsOfSheets(t *testing.T) {
	wide := func(rows, cols int) [][]string {
		var out [][]string
		for range rows {
			out = append(out, make([]string, cols))
		}
		return out
	}
	last := wide(1000, 200)
	last[999][199] = "x"
	wantRowsOf(t, sheetOf("GR1000: x"), last)
	wantRowsOf(t, sheetOf("GR1000: '"), wide(1000, 200))
	apart := wide(1000, 200)
	apart[0][199], apart[999][0] = "x", "y"
	wantRowsOf(t, sheetOf("GR1: x | A1000: y"), apart)
	down := wide(1000, 1)
	for i := range down {
		down[i][0] = "7"
	}
	wantRowsOf(t, sheetOf("A1: =SEQUENCE(1000,1,7,0)"), down)
	wantRowsOf(t, sheetOf("A1: =SEQUENCE(1,200,7,0)"), rows(slices.Repeat(row("7"), 200)))
	wantRowsOf(t, impl.Sheet{Cells: []impl.Cell{{Row: 1, Col: 1, Text: letters(1000)}, {Row: 1, Col: 2, Text: letters(1001)}}}, rows(row(letters(1000), "#VALUE!")))
	for _, s := range noSheets() {
		wantRowsOf(t, s, nil)
	}
}

// TestRowsComeBack goes from rows to a sheet and back, and by way of a text.
func TestRowsComeBack(t *testing.T) {
	for _, list := range [][][]string{
		rows(row("a")), rows(row("a", "b"), row("c", "d")), rows(row("=1", "'x", "''", "="), row("1", "2.5", "TRUE", "#N/A")), rows(row("", "a"), row("b", "")), rows(row("", "", ""), row("", "", "x")), rows(row(letters(999), "\"", ",", ";")), rows(row("a", strings.Repeat("'", 50))),
	} {
		wantRowsOf(t, impl.SheetOfRows(list), list)
		for _, mark := range fileMarks {
			read := impl.ReadSeparated(impl.SeparatedText(list, mark), mark)
			wantRowsOf(t, impl.SheetOfRows(read.Rows), list)
		}
	}
}
