package tests

import (
	"strings"
	"testing"

	"loop.example/g00025/impl"
)

// wantMacro asks for the macro that makes one sheet another, and that it does so when it is run.
func wantMacro(t *testing.T, a, b impl.Sheet, want string) {
	t.Helper()
	wasA, wasB := cloned(a), cloned(b)
	got := impl.MacroOf(a, b)
	if got != want {
		t.Errorf("%.300s\n to   %.300s\n is   %.300q\n want %.300q", toldSheet(a), toldSheet(b), got, want)
	}
	if !sameSheets(a, wasA) || !sameSheets(b, wasB) {
		t.Errorf("%.300s to %.300s was written into", toldSheet(wasA), toldSheet(wasB))
	}
	// The empty text is that of the same sheet, too, or there is none.
	if got != "" || sameSheets(a, b) && impl.GoodSheet(a) {
		wantRan(t, a, got, impl.Ran{Sheet: b})
	}
}

func TestMacroOf(t *testing.T) {
	for _, c := range [][3]string{
		{"", "", ""}, {"A1: 1 | N: =1", "A1: 1 | N: =1", ""}, {"A1: = a2 | N: = a2", "A1: = a2 | N: = a2", ""},
		{"", "A1: 1", "set A1 1"}, {"A1: 1", "", "clear A1:A1"}, {"A1: 1", "A1: 2", "set A1 2"}, {"A1: 1", "B1: 1", "clear A1:A1 / set B1 1"}, {"A1: 1", "A1: 1.0", "set A1 1.0"}, {"A1: = a2", "A1: =A2", "set A1 =A2"}, {"A1: 1", "A1:  x  ", "set A1  x  "}, {"GR1000: 1", "A1000: 1 | GR1: x/y ", "clear GR1000:GR1000 / set GR1 x/y  / set A1000 1"},
		// Rising by row, then column; all that go ahead of all that come.
		{"A1: 1 | B1: 2 | A2: 3 | C3: 4 | B2: 9", "C1: 5 | A2: 6 | B2: 9 | A3: 7 | D3: 8", "clear A1:A1 / clear B1:B1 / clear C3:C3 / set C1 5 / set A2 6 / set A3 7 / set D3 8"}, {"Z1: 1 | AA1: 2 | A10: 3 | A9: 4", "", "clear Z1:Z1 / clear AA1:AA1 / clear A9:A9 / clear A10:A10"},
		// Names: gone, new, and with another text; ahead of the cells.
		{"", "N: =1", "name N =1"}, {"N: =1", "", "forget N"}, {"N: =1", "N: =2", "name N =2"}, {"N: =1", "N: = 1", "name N = 1"}, {"L: =1 | M: =2 | N: =3", "M: =2 | N: =4 | O: =5 | K: =6", "forget L / name K =6 / name N =4 / name O =5"}, {"A1: 1 | B: =1 | D: =2", "A2: 1 | A: =1 | D: =3", "forget B / name A =1 / name D =3 / clear A1:A1 / set A2 1"}, {"A_: =1 | AA: =2", "", "forget AA / forget A_"}, {"A1: =N | N: =A1", "A1: =M | M: =A1", "forget N / name M =A1 / set A1 =M"},
	} {
		wantMacro(t, sheetOf(c[0]), sheetOf(c[1]), macroOf(c[2]))
	}
}

// bigCells have texts of so many bytes, one below the other.
func bigCells(many, bytes int) impl.Sheet {
	var s impl.Sheet
	for n := range many {
		s.Cells = append(s.Cells, impl.Cell{Row: 1 + n, Col: 1, Text: letters(bytes)})
	}
	return s
}

func TestMacrosThatWouldBeTooLong(t *testing.T) {
	// As many lines as may be, and one more.
	hundred := impl.Sheet{Cells: manyCells(100, "1")}
	more := impl.Sheet{Cells: manyCells(101, "1")}
	text, gone := "", ""
	for _, c := range hundred.Cells {
		at := impl.RefText(cell(c.Row, c.Col))
		text += "set " + at + " 1\n"
		gone += "clear " + at + ":" + at + "\n"
	}
	wantMacro(t, impl.Sheet{}, hundred, text)
	wantMacro(t, hundred, impl.Sheet{}, gone)
	wantMacro(t, impl.Sheet{}, more, "")
	wantMacro(t, more, impl.Sheet{}, "")
	wantMacro(t, hundred, more, "set A6 1\n")
	// Names count, too: those that go and those that come.
	names := impl.Sheet{Names: manyNames(40, "=1")}
	wantMacro(t, impl.Sheet{Cells: hundred.Cells[:99], Names: names.Names[:1]}, impl.Sheet{}, "forget N_000\n"+strings.Join(strings.SplitAfter(gone, "\n")[:99], ""))
	wantMacro(t, impl.Sheet{Cells: hundred.Cells, Names: names.Names[:1]}, impl.Sheet{}, "")
	wantMacro(t, names, hundred, "")
	wantMacro(t, hundred, impl.Sheet{Cells: hundred.Cells[:40], Names: names.Names}, strings.ReplaceAll(nameTexts(names), "#", "=1")+strings.Join(strings.SplitAfter(gone, "\n")[40:], ""))
	wantMacro(t, hundred, impl.Sheet{Cells: hundred.Cells[:39], Names: names.Names}, "")
	full := impl.Sheet{Cells: manyCells(300, "1"), Names: names.Names}
	wantMacro(t, full, full, "")
	wantMacro(t, full, impl.Sheet{}, "")
	// As many bytes as may be, and one more: `set A1 `, the text, and a byte 10.
	wantMacro(t, impl.Sheet{}, bigCells(5, 1992), strings.TrimPrefix(strings.ReplaceAll("\nset A1 #\nset A2 #\nset A3 #\nset A4 #\nset A5 #\n", "#", letters(1992)), "\n"))
	wantMacro(t, bigCells(1, 1), bigCells(5, 1992), strings.ReplaceAll("set A1 #\nset A2 #\nset A3 #\nset A4 #\nset A5 #\n", "#", letters(1992)))
	longer := bigCells(5, 1992)
	longer.Cells[4].Text += "x"
	wantMacro(t, impl.Sheet{}, longer, "")
	wantMacro(t, bigCells(1, 1992), longer, strings.ReplaceAll("set A2 #\nset A3 #\nset A4 #\nset A5 #x\n", "#", letters(1992)))
	wantMacro(t, impl.Sheet{}, bigCells(300, 2000), "")
	long := "=" + letters(1991)
	wantMacro(t, impl.Sheet{}, impl.Sheet{Names: []impl.Named{{Name: "D", Text: long}, {Name: "E", Text: long}, {Name: "F", Text: long}, {Name: "G", Text: long}, {Name: "H", Text: long}}}, strings.ReplaceAll("name D #\nname E #\nname F #\nname G #\nname H #\n", "#", long))
	wantMacro(t, impl.Sheet{}, impl.Sheet{Names: []impl.Named{{Name: "D", Text: long}, {Name: "E", Text: long}, {Name: "F", Text: long}, {Name: "G", Text: long}, {Name: "HH", Text: long}}}, "")
}

func nameTexts(s impl.Sheet) string {
	out := ""
	for _, n := range s.Names {
		out += "name " + n.Name + " #\n"
	}
	return out
}

func TestMacroOfSheetsThatAreNotGood(t *testing.T) {
	good := sheetOf("A1: 1 | N: =A1")
	for _, bad := range append(noSheets(), sheetOf("A1: 1 | SUM: =1"), sheetOf("A1: 1 | n: =1"), sheetOf("A1: 1 | N: 1")) {
		for _, other := range []impl.Sheet{{}, good, bad} {
			wantMacro(t, bad, other, "")
			wantMacro(t, other, bad, "")
		}
	}
	for _, s := range goodSheets() {
		wantMacro(t, s, s, "")
		for _, other := range goodSheets() {
			if text := impl.MacroOf(s, other); text != "" {
				wantRan(t, s, text, impl.Ran{Sheet: other})
			}
		}
	}
}
