package tests

import (
	"fmt"
	"slices"
	"strconv"
	"strings"
	"testing"

	"loop.example/g00025/impl"
)

// doOf has an operation as toldDo tells it: who does it, and a change as changesOf takes it (`1 A3: x`), or rows or
// columns that are put in or deleted, from where on and how many (`2 +rows 3 1`, `2 -cols 3 1`); or `nothing`.
func doOf(text string) impl.Do {
	who, what, _ := strings.Cut(text, " ")
	number, err := strconv.Atoi(who)
	if changes := changesOf(what); err == nil && len(changes) == 1 {
		return impl.Do{Kind: impl.DoSet, Who: number, Change: changes[0]}
	}
	var sign, line string
	d := impl.Do{Kind: impl.DoTurn, Who: number}
	if n, _ := fmt.Sscanf(what, "%1s%4s %d %d", &sign, &line, &d.Turn.At, &d.Turn.Many); n == 4 {
		d.Turn.Kind = map[string]int{"rows": impl.TurnRows, "cols": impl.TurnCols}[line]
		d.Turn.Delete = sign == "-"
		return d
	}
	if text != "nothing" {
		panic(text + " tells no operation")
	}
	return impl.Do{}
}

// dosOf has operations with ` / ` between.
func dosOf(text string) []impl.Do {
	var out []impl.Do
	for _, part := range strings.Split(text, " / ") {
		if part != "" {
			out = append(out, doOf(part))
		}
	}
	return out
}

func toldDo(d impl.Do) string {
	sign := map[bool]string{false: "+", true: "-"}[d.Turn.Delete]
	switch {
	case d == impl.Do{}:
		return "nothing"
	case d.Kind == impl.DoSet && d.Turn == impl.Turn{}:
		return fmt.Sprintf("%d %s", d.Who, toldChanges([]impl.Change{d.Change}))
	case d.Kind == impl.DoTurn && d.Change == impl.Change{} && (d.Turn.Kind == impl.TurnRows || d.Turn.Kind == impl.TurnCols):
		return fmt.Sprintf("%d %s%s %d %d", d.Who, sign, map[int]string{impl.TurnRows: "rows", impl.TurnCols: "cols"}[d.Turn.Kind], d.Turn.At, d.Turn.Many)
	}
	return fmt.Sprintf("%#v", d)
}

func toldDos(list []impl.Do) string {
	var out []string
	for _, d := range list {
		out = append(out, toldDo(d))
	}
	return strings.Join(out, " / ")
}

func setDo(who, row, col int, text string) impl.Do {
	return impl.Do{Kind: impl.DoSet, Who: who, Change: impl.Change{Row: row, Col: col, Text: text}}
}

func turnDo(who int, turn impl.Turn) impl.Do {
	return impl.Do{Kind: impl.DoTurn, Who: who, Turn: turn}
}

// goodDos: operations at the edges of what is good.
func goodDos() []impl.Do {
	out := []impl.Do{{}}
	for _, who := range []int{0, 1, 50, 98, 99} {
		out = append(out, setDo(who, 1, 1, "x"), setDo(who, 2, 3, ""), turnDo(who, rowsIn(1, 1)), turnDo(who, colsOut(2, 3)))
	}
	for _, r := range []impl.Ref{cell(1, 1), cell(1, 200), cell(1000, 1), cell(1000, 200), cell(201, 7)} {
		out = append(out, setDo(7, r.Row, r.Col, ""), setDo(7, r.Row, r.Col, "=A1"))
	}
	for _, text := range []string{" ", "~", "=", "'", "=1+", letters(1999), letters(2000), "=" + letters(1999), "=" + strings.Repeat(" ", 1998) + "1", allBytes()} {
		out = append(out, setDo(7, 4, 4, text))
	}
	for _, turn := range []impl.Turn{rowsIn(1, 100), rowsIn(1000, 1), rowsIn(1000, 100), rowsIn(201, 1), colsIn(200, 100), colsIn(1, 100), rowsOut(1, 100), rowsOut(1000, 1), rowsOut(901, 100), colsOut(1, 100), colsOut(101, 100), colsOut(200, 1)} {
		out = append(out, turnDo(7, turn))
	}
	return out
}

// noDos: operations that are not good, in one way each.
func noDos() []impl.Do {
	set, turn := setDo(1, 2, 3, "x"), turnDo(1, rowsIn(2, 3))
	var out []impl.Do
	// Nothing has no field that is not zero.
	someChanges := []impl.Change{{Row: 1}, {Col: 1}, {Text: "x"}, {Row: -1}, {Row: 2, Col: 3, Text: "x"}, {Row: 2, Col: 3}}
	someTurns := []impl.Turn{{Kind: 1}, {At: 1}, {Many: 1}, {Delete: true}, {At: -1}, rowsIn(2, 3), colsOut(2, 3)}
	for _, who := range append([]int{1, 50, 99, 100}, farNumbers...) {
		out = append(out, impl.Do{Who: who})
	}
	// A set has no turn beside it, a turn no change.
	for _, c := range someChanges {
		out = append(out, impl.Do{Change: c}, impl.Do{Kind: impl.DoTurn, Who: 1, Change: c, Turn: rowsIn(2, 3)}, impl.Do{Kind: impl.DoTurn, Change: c})
	}
	for _, u := range someTurns {
		out = append(out, impl.Do{Turn: u}, impl.Do{Kind: impl.DoSet, Who: 1, Change: set.Change, Turn: u}, impl.Do{Kind: impl.DoSet, Turn: u})
	}
	for _, kind := range append([]int{0, 3, 4, 100, 1 << 32, 1<<32 + 1, 1<<32 + 2}, farNumbers...) {
		for _, d := range []impl.Do{set, turn} {
			d.Kind = kind
			out = append(out, d)
		}
		if kind != 0 {
			out = append(out, impl.Do{Kind: kind})
		}
	}
	for _, d := range []impl.Do{set, turn} {
		d.Kind = 3 - d.Kind
		out = append(out, d)
	}
	for _, who := range append([]int{100, 101, 1000, 1 << 32}, farNumbers...) {
		out = append(out, setDo(who, 2, 3, "x"), setDo(who, 2, 3, ""), turnDo(who, rowsIn(2, 3)), turnDo(who, colsOut(2, 3)))
	}
	for _, r := range noPlaces() {
		out = append(out, setDo(1, r.Row, r.Col, ""), setDo(1, r.Row, r.Col, "x"))
	}
	for _, text := range badTexts() {
		out = append(out, setDo(1, 2, 3, text))
	}
	for _, u := range noTurns() {
		out = append(out, turnDo(1, u))
	}
	return out
}

func TestConstantsOfOperations(t *testing.T) {
	if impl.DoSet != 1 || impl.DoTurn != 2 {
		t.Errorf("%d, %d", impl.DoSet, impl.DoTurn)
	}
}

func TestGoodDo(t *testing.T) {
	for _, d := range goodDos() {
		if !impl.GoodDo(d) {
			t.Errorf("GoodDo(%.200v) = false", d)
		}
	}
	for _, d := range noDos() {
		if impl.GoodDo(d) {
			t.Errorf("GoodDo(%.200v) = true", d)
		}
	}
}

// wantPerformed asks for the sheet after an operation; none where there is nothing in it.
func wantPerformed(t *testing.T, what any, s impl.Sheet, d impl.Do, want impl.Sheet) {
	t.Helper()
	was := cloned(s)
	got := impl.Perform(s, d)
	if !sameSheets(got, want) {
		t.Errorf("%.200v, %.200s\n is   %.300s\n want %.300s", what, toldDo(d), toldSheet(got), toldSheet(want))
	}
	if !impl.GoodSheet(got) {
		t.Errorf("%.200v, %.200s: no good sheet", what, toldDo(d))
	}
	if !sameSheets(s, was) {
		t.Errorf("%.200v, %.200s: the sheet was written into", what, toldDo(d))
	}
}

// checkPerformed has sheets, operations, and the sheets after them.
func checkPerformed(t *testing.T, performed [][3]string) {
	t.Helper()
	for _, c := range performed {
		if !impl.GoodSheet(sheetOf(c[0])) || !impl.GoodDo(doOf(c[1])) {
			t.Errorf("%v: not good", c)
		}
		wantPerformed(t, c[0], sheetOf(c[0]), doOf(c[1]), sheetOf(c[2]))
	}
}

func TestPerformSets(t *testing.T) {
	checkPerformed(t, [][3]string{
		{"", "nothing", ""}, {"A1: =b1 + 1 | N: =a1", "nothing", "A1: =b1 + 1 | N: =a1"},
		{"", "0 A1: x", "A1: x"}, {"A1: 1 | N: =A1", "1 A1: 2", "A1: 2 | N: =A1"}, {"A1: 1 | N: =A1", "99 A1: ", "N: =A1"}, {"A1: 1", "1 B1: ", "A1: 1"}, {"A1: 1", "1 A1: 1", "A1: 1"}, {"A1: 1", "1 A1: ", ""},
		{"B2: 1", "1 B1: 2", "B1: 2 | B2: 1"}, {"B2: 1", "1 A2: 2", "A2: 2 | B2: 1"}, {"B2: 1", "1 A3: 2", "B2: 1 | A3: 2"}, {"A1: 1", "1 GR1000: 2", "A1: 1 | GR1000: 2"},
		// Texts as they are, its own and the others.
		{"A1: = b1", "1 B1: =a1 + 1", "A1: = b1 | B1: =a1 + 1"}, {"A1: = b1 | N: = a1", "1 A2: =1+", "A1: = b1 | A2: =1+ | N: = a1"}, {"A1: = b1", "1 A1:  x", "A1:  x"},
	})
}

func TestPerformRowsPutIn(t *testing.T) {
	checkPerformed(t, [][3]string{
		{"", "1 +rows 2 1", ""}, {"A1: x", "1 +rows 2 1", "A1: x"}, {"A1: x", "1 +rows 1 1", "A2: x"}, {"A1: x | A2: y | B2: z | A3: u", "1 +rows 2 3", "A1: x | A5: y | B5: z | A6: u"}, {"A1: x", "1 +rows 1 100", "A101: x"},
		// Formulas go along, those of names too, and are told anew.
		{"A1: =A3+1 | A3: 7 | B3: =a1", "1 +rows 2 1", "A1: =A4+1 | A4: 7 | B4: =A1"}, {"A1: =$A$3+A$1+$B2 | N: =A3*B1", "1 +rows 3 2", "A1: =$A$5+A$1+$B2 | N: =A5*B1"}, {"A1: =SUM(A2:A4) | A5: =SUM(A4:A2)", "1 +rows 3 1", "A1: =SUM(A2:A5) | A6: =SUM(A5:A2)"}, {"A1: = ( a1 )  + 1 | N: = sum( true , b2 )", "1 +rows 9 1", "A1: =A1+1 | N: =SUM(TRUE,B2)"}, {"A1: =LET(x,A1,x+foo(A2))", "1 +rows 2 1", "A1: =LET(x,A1,x+FOO(A3))"},
		// What is no formula stays.
		{"A1: A3 | A2: '=A3 | A3: =A3+ | A4:  =A3 | N: =A3)", "1 +rows 1 1", "A2: A3 | A3: '=A3 | A4: =A3+ | A5:  =A3 | N: =A3)"}, {"A1: =\"A3\"&\"=A3\"", "1 +rows 1 1", "A2: =\"A3\"&\"=A3\""}, {"A1: = | A2: ==A1", "1 +rows 2 1", "A1: = | A3: ==A1"},
		// Pushed beyond the last row, and what is meant by it.
		{"A1000: x | B999: y", "1 +rows 1000 1", "B999: y"}, {"A1000: x | B999: y", "1 +rows 1 1", "B1000: y"}, {"A1: =A1000+A999 | A950: x", "1 +rows 951 1", "A1: =#REF!+A1000 | A950: x"}, {"A901: x | A900: y | B1: =A901+A900", "1 +rows 1 100", "A1000: y | B101: =#REF!+A1000"}, {"A1: =SUM(A5:A1000) | N: =A1000", "1 +rows 9 4", "A1: =SUM(A5:A1000) | N: =#REF!"}, {"A1000: x", "1 +rows 1000 100", ""},
	})
}

func TestPerformRowsDeleted(t *testing.T) {
	checkPerformed(t, [][3]string{
		{"", "1 -rows 2 1", ""}, {"A1: x", "1 -rows 1 1", ""}, {"A1: x", "1 -rows 2 1", "A1: x"}, {"A1: x | A2: y | B2: z | A3: u | A4: v | A5: w", "1 -rows 2 2", "A1: x | A2: v | A3: w"}, {"A101: x | A100: y", "1 -rows 1 100", "A1: x"}, {"A1000: x | A900: y | A901: z", "1 -rows 901 100", "A900: y"}, {"A1000: x | A999: y", "1 -rows 1000 1", "A999: y"}, {"A1000: x | A999: y", "1 -rows 999 1", "A999: x"},
		{"A1: =A3+1 | A3: 7 | B3: =a1", "1 -rows 3 1", "A1: =#REF!+1"}, {"A1: =A3+1 | A3: 7 | B3: =a1 | C4: =a4", "1 -rows 2 1", "A1: =A2+1 | A2: 7 | B2: =A1 | C3: =A3"}, {"A1: =SUM(A2:A4)+SUM(A3:A3)", "1 -rows 3 1", "A1: =SUM(A2:A3)+SUM(#REF!)"}, {"A1: 1 | M: =A5+$A$6 | N: =A2", "1 -rows 2 3", "A1: 1 | M: =A2+$A$3 | N: =#REF!"},
		{"A5: =#REF!+A5 | A6: =A5+", "1 -rows 1 4", "A1: =#REF!+A1 | A2: =A5+"},
	})
}

func TestPerformColumns(t *testing.T) {
	checkPerformed(t, [][3]string{
		{"A1: x | B1: y | A2: z | C2: u", "1 +cols 2 1", "A1: x | C1: y | A2: z | D2: u"}, {"A1: x | B1: y | A2: z | C2: u", "1 -cols 2 1", "A1: x | A2: z | B2: u"}, {"A1: =C1+$B2+A$1 | N: =Z9", "1 +cols 2 2", "A1: =E1+$D2+A$1 | N: =AB9"}, {"A1: =C1+$B2+A$1 | N: =Z9", "1 -cols 2 1", "A1: =B1+#REF!+A$1 | N: =Y9"}, {"A1: =SUM(A1:C9)", "1 -cols 3 1", "A1: =SUM(A1:B9)"},
		{"GR1: x | GQ1: y | A2: =GR1 | N: =GQ1", "1 +cols 1 1", "GR1: y | B2: =#REF! | N: =GR1"}, {"GR1: x | A2: =GR1", "1 +cols 200 100", "A2: =#REF!"}, {"GR1000: x | A2: =GR1000", "1 -cols 101 99", "A2: =CW1000 | CW1000: x"}, {"GR1: x | CV1: y | CW1: z", "1 -cols 101 100", "CV1: y"},
		// Rows do not matter there.
		{"A5: =A9 | B5: x", "1 +cols 2 1", "A5: =A9 | C5: x"}, {"A1: =A300", "1 +cols 200 1", "A1: =A300"},
	})
}

// tailed has a formula's beginning, and texts behind it, so that it has so many bytes.
func tailed(head string, bytes int) string {
	for len(head)+3 < bytes {
		// The last piece has at least one byte, with `&` and both `"` around it.
		piece := min(200, bytes-len(head)-3)
		if left := bytes - len(head) - 3 - piece; left > 0 && left < 4 {
			piece -= 4
		}
		head += `&"` + letters(piece) + `"`
	}
	if len(head) != bytes {
		panic(head)
	}
	return head
}

// TestPerformLongTexts: a formula whose new text would be none stays as it is, and so does all that it refers to.
func TestPerformLongTexts(t *testing.T) {
	down, up, away := doOf("1 +rows 2 1"), doOf("1 -rows 2 1"), doOf("1 -rows 9 1")
	for _, c := range []struct {
		text string
		d    impl.Do
		want string
	}{
		// A9 becomes A10.
		{tailed("=A9", 1999), down, tailed("=A10", 2000)}, {tailed("=A9", 2000), down, tailed("=A9", 2000)}, {tailed("=A8+A9", 1999), down, tailed("=A9+A10", 2000)}, {tailed("=A8+A9", 2000), down, tailed("=A8+A9", 2000)}, {tailed("=A8", 2000), down, tailed("=A9", 2000)}, {tailed("=A10", 2000), up, tailed("=A9", 1999)},
		// What is lost is longer than it was.
		{tailed("=A9", 1997), away, tailed("=#REF!", 2000)}, {tailed("=A9", 1998), away, tailed("=A9", 1998)},
		// What is told anew may be longer, or shorter, where nothing moves.
		{tailed("=A1+1E9", 1993), down, tailed("=A1+1000000000", 2000)}, {tailed("=A1+1E9", 1994), down, tailed("=A1+1E9", 1994)}, {tailed("=A3+1E9", 1994), down, tailed("=A3+1E9", 1994)}, {tailed("= a9", 2000), down, tailed("=A10", 2000)}, {tailed("=  a9", 2000), up, tailed("=A8", 1998)},
	} {
		if n := len(c.text); n > 2000 || impl.ReadFormula(c.text).Err != 0 {
			t.Fatalf("%.20s: %d bytes", c.text, n)
		}
		s := impl.Sheet{Cells: []impl.Cell{{Row: 1, Col: 1, Text: c.text}, {Row: 1, Col: 2, Text: "=A1"}}, Names: []impl.Named{{Name: "N", Text: c.text}}}
		want := impl.Sheet{Cells: []impl.Cell{{Row: 1, Col: 1, Text: c.want}, {Row: 1, Col: 2, Text: "=A1"}}, Names: []impl.Named{{Name: "N", Text: c.want}}}
		wantPerformed(t, c.text[:20], s, c.d, want)
		set := setDo(5, 1, 1, c.text)
		if got := impl.Transform(set, c.d); got != setDo(5, 1, 1, c.want) {
			t.Errorf("%.20s of %d bytes by %s: %.20s of %d bytes", c.text, len(c.text), toldDo(c.d), got.Change.Text, len(got.Change.Text))
		}
	}
}

func TestPerformOnFullSheets(t *testing.T) {
	full := impl.Sheet{Cells: manyCells(300, "1"), Names: manyNames(40, "=A1")}
	less := impl.Sheet{Cells: full.Cells[:299], Names: full.Names}
	wantPerformed(t, "a cell that is there", full, setDo(1, 1, 1, "2"), impl.WithChanges(full, changesOf("A1: 2")))
	wantPerformed(t, "a cell goes", full, setDo(1, 15, 20, ""), less)
	wantPerformed(t, "none goes", full, setDo(1, 16, 1, ""), full)
	wantPerformed(t, "the last cell", less, setDo(1, 15, 20, "1"), full)
	wantPerformed(t, "one cell too many", full, setDo(1, 16, 1, "1"), impl.Sheet{})
	wantPerformed(t, "nothing", full, impl.Do{}, full)
	moved := cloned(full)
	for i := range moved.Cells {
		moved.Cells[i].Row += 100
	}
	for i := range moved.Names {
		moved.Names[i].Text = "=A101"
	}
	wantPerformed(t, "rows put in", full, turnDo(1, rowsIn(1, 100)), moved)
	wantPerformed(t, "and deleted", moved, turnDo(1, rowsOut(1, 100)), full)
	none := impl.Sheet{Names: manyNames(40, "=#REF!")}
	wantPerformed(t, "all rows deleted", full, turnDo(1, rowsOut(1, 15)), none)
}

func TestPerformWhereSomethingIsNotGood(t *testing.T) {
	s := sheetOf("A1: 1 | B3: =A1 | N: =A1")
	for _, d := range noDos() {
		wantPerformed(t, "no operation", s, d, impl.Sheet{})
		wantPerformed(t, "no operation", impl.Sheet{}, d, impl.Sheet{})
	}
	for i, s := range append(noSheets(), sheetOf("A1: 1 | SUM: =1"), sheetOf("A1: 1 | n: =1"), sheetOf("A1: 1 | N: 1")) {
		for _, d := range dosOf("nothing / 1 A1: x / 1 A1:  / 1 +rows 1 1 / 1 -rows 1 1 / 1 -cols 1 100") {
			wantPerformed(t, i, s, d, impl.Sheet{})
		}
	}
	for i, s := range goodSheets() {
		wantPerformed(t, i, s, impl.Do{}, s)
		for _, d := range goodDos() {
			// A set may be one too many; whether a sheet may be is told by what is in it.
			if after := impl.Perform(s, d); d.Kind == impl.DoTurn && len(after.Names) != len(s.Names) || !impl.GoodSheet(after) {
				t.Errorf("%d: %.200v: %.200v", i, d, after)
			}
		}
	}
}

// TestPerformedSheetsAreNewMemory writes into answers and arguments, and asks again.
func TestPerformedSheetsAreNewMemory(t *testing.T) {
	for _, d := range dosOf("nothing / 1 A1: 1 / 1 A1: 5 / 1 A1:  / 1 B9:  / 1 +rows 500 1 / 1 -rows 500 1 / 1 +rows 2 1 / 1 -cols 2 1") {
		s := sheetOf("A1: 1 | B2: =A1 | C3: x | M: =1 | N: =A1")
		want := cloned(impl.Perform(s, d))
		got := impl.Perform(s, d)
		clear(s.Cells)
		clear(s.Names)
		if !sameSheets(got, want) {
			t.Errorf("%s: %s when what was handed in is written into", toldDo(d), toldSheet(got))
		}
		s = sheetOf("A1: 1 | B2: =A1 | C3: x | M: =1 | N: =A1")
		got = impl.Perform(s, d)
		_, _ = append(got.Cells, impl.Cell{Text: "?"}), append(got.Names, impl.Named{Text: "?"})
		clear(got.Cells)
		if !slices.Equal(got.Names, want.Names) {
			t.Errorf("%s: %s when another list of the answer is written into", toldDo(d), toldSheet(got))
		}
		clear(got.Names)
		wantPerformed(t, "again", s, d, want)
	}
}
