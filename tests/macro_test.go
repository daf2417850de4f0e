package tests

import (
	"fmt"
	"slices"
	"strings"
	"testing"

	"loop.example/g00025/impl"
)

// macroOf has lines, told with ` / ` between, each ended.
func macroOf(text string) string {
	if text == "" {
		return ""
	}
	return strings.ReplaceAll(text, " / ", "\n") + "\n"
}

func toldRan(r impl.Ran) string {
	return fmt.Sprintf("Err %d in line %d, %.300s, tells %.300q", r.Err, r.Line, toldSheet(r.Sheet), r.Out)
}

func sameRuns(a, b impl.Ran) bool {
	return a.Err == b.Err && a.Line == b.Line && sameSheets(a.Sheet, b.Sheet) && slices.Equal(a.Out, b.Out)
}

func wantRan(t *testing.T, start impl.Sheet, text string, want impl.Ran) {
	t.Helper()
	was := cloned(start)
	got := impl.RunMacro(start, text)
	if !sameRuns(got, want) {
		t.Errorf("%.300q\n on   %.300s\n is   %s\n want %s", text, toldSheet(start), toldRan(got), toldRan(want))
	}
	if !impl.GoodSheet(got.Sheet) || len(got.Out) > 3000 {
		t.Errorf("%.300q on %.300s: no good sheet, or %d lines", text, toldSheet(start), len(got.Out))
	}
	if !sameSheets(start, was) {
		t.Errorf("%.300q: the sheet was written into", text)
	}
}

// ranWell is a run through all lines: a start, the lines, the sheet then, and what is told.
type ranWell struct {
	start, lines, sheet string
	out                 []string
}

func checkRuns(t *testing.T, runs []ranWell) {
	t.Helper()
	for _, c := range runs {
		wantRan(t, sheetOf(c.start), macroOf(c.lines), impl.Ran{Sheet: sheetOf(c.sheet), Out: c.out})
	}
}

// wantEnd asks that a line ends a run, as the first, a middle and the last one, with all as it was ahead of it.
func wantEnd(t *testing.T, start, line string, err int) {
	t.Helper()
	for _, ahead := range []string{"show GQ77 / ", "", "show GQ77 / show GQ77 / check GQ77 5 / show GR1:GR2 / "} {
		for _, behind := range []string{"", " / show GQ77", " / set GQ77 x / undo / no line"} {
			s := sheetOf("GQ77: 5")
			s.Cells = append(sheetOf(start).Cells, s.Cells...)
			s.Names = sheetOf(start).Names
			want := impl.Ran{Err: err, Line: strings.Count(ahead, " / ") + 1, Sheet: s}
			for range strings.Count(ahead, "show GQ77") {
				want.Out = append(want.Out, "GQ77 = 5")
			}
			if strings.Contains(ahead, ":") {
				want.Out = append(want.Out, "", "")
			}
			wantRan(t, s, strings.ReplaceAll(ahead, " / ", "\n")+line+strings.ReplaceAll(behind, " / ", "\n")+"\n", want)
		}
	}
}

func checkEnds(t *testing.T, start string, err int, lines ...string) {
	t.Helper()
	for _, line := range lines {
		wantEnd(t, start, line, err)
	}
}

func TestConstantsOfMacros(t *testing.T) {
	got := []int{impl.MaxLines, impl.MaxOut, impl.MaxScript}
	if want := []int{100, 3000, 10000}; !slices.Equal(got, want) {
		t.Errorf("%v, want %v", got, want)
	}
}

func TestMacrosOfTexts(t *testing.T) {
	checkRuns(t, []ranWell{
		{"", "", "", nil}, {"A1: = a2 | N: = a1", "", "A1: = a2 | N: = a1", nil},
		{"", "set A1 2", "A1: 2", nil}, {"A1: 1 | N: =A1", "set A1 2 / set GR1000 =a1 + 1", "A1: 2 | GR1000: =a1 + 1 | N: =A1", nil}, {"", "set A1 1 / set A1 2 / set B1 3", "A1: 2 | B1: 3", nil},
		// All up to the line's end is the text, blanks too.
		{"", "set A1 a b  c ", "A1: a b  c ", nil}, {"", "set A1  x", "A1:  x", nil}, {"", "set A1  ", "A1:  ", nil}, {"", "set A1    ", "A1:    ", nil}, {"", "set A1 set A1 x", "A1: set A1 x", nil}, {"", "set A1 ~", "A1: ~", nil}, {"", "set A1 =1+", "A1: =1+", nil}, {"", "set A1 $A$1:B2", "A1: $A$1:B2", nil},
		{"A1: 1 | B2: 2 | C3: 3", "clear A1:B2", "C3: 3", nil}, {"A1: 1 | B2: 2 | C3: 3", "clear B2:A1", "C3: 3", nil}, {"A1: 1 | B2: 2 | C3: 3", "clear B1:A2", "C3: 3", nil}, {"A1: 1", "clear A1:A1", "", nil}, {"A1: 1 | B1: =a1 | N: = a1", "clear A1:A1", "B1: =a1 | N: = a1", nil}, {"A1: 1", "clear A2:GR1000", "A1: 1", nil}, {"A1: 1 | GR1000: 2", "clear A1:GR1000", "", nil}, {"A1: 1 | B1: 2", "clear GR1:B1000", "A1: 1", nil}, {"", "clear A1:A1", "", nil}, {"N: =1", "clear A1:GR1000", "N: =1", nil},
	})
}

func TestMacrosOfNames(t *testing.T) {
	checkRuns(t, []ranWell{
		{"", "name TAX =0.5", "TAX: =0.5", nil}, {"A1: =tax*2", "name TAX =0.5 / show A1", "A1: =tax*2 | TAX: =0.5", []string{"A1 = 1"}}, {"TAX: =1", "name TAX =2", "TAX: =2", nil}, {"TAX: =1", "name TAX =1", "TAX: =1", nil}, {"B: =1 | F: =2", "name D =3 / name A =4 / name H =5", "A: =4 | B: =1 | D: =3 | F: =2 | H: =5", nil},
		{"", "name _ =", "_: =", nil}, {"", "name A.1_B =1+ ", "A.1_B: =1+ ", nil}, {"", "name GS1 =  ", "GS1: =  ", nil}, {"", "name " + strings.Repeat("N", 20) + " =1", strings.Repeat("N", 20) + ": =1", nil}, {"", "name DOWN =set A1", "DOWN: =set A1", nil},
		{"A1: =N | N: =1", "forget N", "A1: =N", nil}, {"L: =1 | M: =2 | N: =3", "forget M / forget N / forget L", "", nil}, {"N: =1", "forget N / name N =2", "N: =2", nil},
	})
}

func TestMacrosOfTurns(t *testing.T) {
	checkRuns(t, []ranWell{
		{"A1: =A3 | A3: 7 | N: =A3", "insert rows 2 1", "A1: =A4 | A4: 7 | N: =A4", nil}, {"A1: =C1 | C1: 7", "insert cols 2 3", "A1: =F1 | F1: 7", nil}, {"A1: =A3 | A3: 7", "delete rows 2 1", "A1: =A2 | A2: 7", nil}, {"A1: =A3 | A3: 7", "delete rows 3 1", "A1: =#REF!", nil}, {"A1: =C1 | C1: 7 | N: =C1", "delete cols 1 2", "A1: 7 | N: =A1", nil},
		{"A1: x", "insert rows 1 100", "A101: x", nil}, {"A1: x", "insert cols 1 100", "CW1: x", nil}, {"A1: x", "insert rows 1000 100", "A1: x", nil}, {"A1: x", "insert cols 200 1", "A1: x", nil}, {"A101: x", "delete rows 1 100", "A1: x", nil}, {"A1: x | A1000: y", "delete rows 901 100", "A1: x", nil}, {"A1: x | GR1: y", "delete cols 200 1", "A1: x", nil},
		// Pushed beyond the last ones.
		{"A1000: x | A1: =A1000", "insert rows 2 1", "A1: =#REF!", nil}, {"A901: x | A900: y", "insert rows 1 100", "A1000: y", nil}, {"GR1: x | GQ1: y | A1: =GR1+GQ1", "insert cols 2 1", "A1: =#REF!+GR1 | GR1: y", nil},
		// Numbers with noughts ahead.
		{"A1: x | A9: y", "insert rows 0009 01", "A1: x | A10: y", nil}, {"A1: x | A9: y", "delete rows 0002 007", "A1: x | A2: y", nil},
		// Formulas are told anew, whatever moves.
		{"A1: = a1 | B1: =1+ | N: = a1", "insert rows 500 1", "A1: =A1 | B1: =1+ | N: =A1", nil},
	})
}

func TestMacrosOfBlocks(t *testing.T) {
	checkRuns(t, []ranWell{
		{"A1: 1 | B1: =A1 | C3: x", "copy A1:B1 C3", "A1: 1 | B1: =A1 | C3: 1 | D3: =C3", nil}, {"A1: 1 | B1: =A1", "copy B1:A1 A2", "A1: 1 | B1: =A1 | A2: 1 | B2: =A2", nil}, {"A1: 1 | A2: 2", "copy A1:A2 A2", "A1: 1 | A2: 1 | A3: 2", nil}, {"A1: = a2 | B1: = a2", "copy A1:A1 A1", "A1: =A2 | B1: = a2", nil}, {"A1: 1", "copy C5:C5 A1", "", nil}, {"A1: 1", "copy A1:A1 GR1000", "A1: 1 | GR1000: 1", nil},
		{"A1: 1 | B1: =A1 | C1: =A1 | C3: x | D3: y | N: =A1", "move A1:A1 C3", "B1: =C3 | C1: =C3 | C3: 1 | D3: y | N: =C3", nil}, {"A1: 1 | B1: 2", "move B1:A1 B1", "B1: 1 | C1: 2", nil}, {"A1: 1 | B1: = a1", "move A1:A1 A1", "A1: 1 | B1: =A1", nil}, {"A1: 1", "move C5:C6 A1", "", nil}, {"A1: 1", "move A1:GR999 A2", "A2: 1", nil},
		{"A1: 3 | B1: =A1 | A2: 1", "sort A1:B2 1", "A1: 1 | A2: 3 | B2: =A2", nil}, {"A1: 3 | A2: 1 | A3: 2", "sort A3:A1 1 down", "A1: 3 | A2: 2 | A3: 1", nil}, {"A1: 3 | B1: x | A2: 1 | B2: y", "sort A1:B2 2 down", "A1: 1 | B1: y | A2: 3 | B2: x", nil}, {"A1: 3 | B1: y | A2: 1 | B2: x", "sort A1:B2 0002", "A1: 1 | B1: x | A2: 3 | B2: y", nil}, {"A1: 2 | A2: 1", "sort A1:A1000 1", "A1: 1 | A2: 2", nil}, {"", "sort A1:GR10 200 down", "", nil},
	})
}

func TestMacrosThatTell(t *testing.T) {
	start := "A1: 2 | B1: =A1*3 | A2: x | C2: ={1,2} | A3: =1/0 | B3: TRUE"
	checkRuns(t, []ranWell{
		{start, "show A1 / show B1 / show A2 / show D2 / show A3 / show B3", start, []string{"A1 = 2", "B1 = 6", "A2 = x", "D2 = 2", "A3 = #DIV/0!", "B3 = TRUE"}}, {start, "show C1 / show GR1000", start, []string{"C1 = ", "GR1000 = "}}, {"A1: '  a ", "show A1", "A1: '  a ", []string{"A1 =   a "}}, {"A1: '", "show A1", "A1: '", []string{"A1 = "}}, {"A1: " + letters(900), "show A1", "A1: " + letters(900), []string{"A1 = " + letters(900)}},
		{start, "show A1:C3", start, []string{"      2    6", "x              1", "#DIV/0! TRUE"}}, {start, "show B1:B1", start, []string{"   6"}}, {start, "show C1:C1", start, []string{""}}, {start, "show E5:F7", start, []string{"", "", ""}}, {"", "show A1:A2", "", []string{"", ""}}, {start, "show C2:D2 / show A1 / show C2:C2", start, []string{"  1   2", "A1 = 2", "  1"}},
		{"A1: 1 | A2: x", "print 20 1", "A1: 1 | A2: x", []string{"Page 1 of 2 A1:A1", "  1", "Page 2 of 2 A2:A2", "x"}}, {"A1: 1 | A2: x", "print 0200 100 / show A1", "A1: 1 | A2: x", []string{"Page 1 of 1 A1:A2", "  1", "x", "A1 = 1"}}, {"A3: 1", "print 20 2", "A3: 1", []string{"Page 1 of 2 A1:A2", "", "", "Page 2 of 2 A3:A3", "  1"}}, {"", "print 20 1 / print 200 100", "", nil}, {"N: =1", "print 100 50", "N: =1", nil},
		// Nothing is told of a check that holds.
		{start, "check A1 2 / check B1 6 / check A2 x / check D2 2 / check A3 #DIV/0! / check B3 TRUE", start, nil}, {"A1: '  a ", "check A1   a ", "A1: '  a ", nil}, {"A1: '   ", "check A1    ", "A1: '   ", nil},
	})
}

// TestWholeMacros have each line by what the ones ahead made.
func TestWholeMacros(t *testing.T) {
	checkRuns(t, []ranWell{
		{"", "set A1 2 / set A2 =A1*3 / check A2 6 / insert rows 2 1 / show A3 / name TAX =0.5 / set B1 =tax*A1 / show A1:B3", "A1: 2 | A3: =A1*3 | B1: =tax*A1 | TAX: =0.5", []string{"A3 = 6", "  2   1", "", "  6"}},
		{"A1: 3", "set B1 =A1 / check B1 3 / set A1 4 / check B1 4 / undo / check B1 3 / redo / check B1 4", "A1: 4 | B1: =A1", nil},
		{"", "set A1 b / set A2 a / set B1 =A1 / sort A1:B2 1 / show A1:B2 / copy A1:B2 A3 / move A3:B4 C1 / delete cols 1 2 / print 20 9", "A1: a | A2: b | B2: =A2", []string{"a", "b   b", "Page 1 of 1 A1:B2", "a", "b   b"}},
	})
}

func TestUndo(t *testing.T) {
	checkRuns(t, []ranWell{
		{"", "set A1 1 / undo", "", nil}, {"A1: 0", "set A1 1 / set A1 2 / undo", "A1: 1", nil}, {"A1: 0", "set A1 1 / set A1 2 / undo / undo", "A1: 0", nil}, {"A1: 0", "set A1 1 / undo / redo", "A1: 1", nil}, {"A1: 0", "set A1 1 / set A1 2 / undo / undo / redo", "A1: 1", nil}, {"A1: 0", "set A1 1 / set A1 2 / undo / undo / redo / redo", "A1: 2", nil}, {"A1: 0", "set A1 1 / set A1 2 / undo / redo / undo / redo / undo / undo", "A1: 0", nil}, {"A1: 0", "set A1 1 / undo / set A1 2 / undo", "A1: 0", nil}, {"A1: 0", "set A1 1 / set A1 2 / undo / set A1 3 / undo / undo", "A1: 0", nil}, {"A1: 0", "set A1 1 / set A1 2 / undo / set A1 3 / undo / redo", "A1: 3", nil},
		// Each kind of line that makes another sheet, and its names.
		{"A1: 1", "clear A1:A1 / undo", "A1: 1", nil}, {"N: =1", "name N =2 / undo", "N: =1", nil}, {"N: =1", "name M =2 / undo", "N: =1", nil}, {"N: =1", "forget N / undo", "N: =1", nil}, {"N: =1", "forget N / undo / redo", "", nil}, {"A1: 1 | N: = a1", "insert rows 1 1 / undo", "A1: 1 | N: = a1", nil}, {"A1: 1 | A2: =A1", "delete rows 1 1 / undo", "A1: 1 | A2: =A1", nil}, {"A1: 1", "copy A1:A1 B1 / undo", "A1: 1", nil}, {"A1: 1 | B1: =a1 | N: =a1", "move A1:A1 A5 / undo", "A1: 1 | B1: =a1 | N: =a1", nil}, {"A1: 2 | A2: 1", "sort A1:A2 1 / undo", "A1: 2 | A2: 1", nil}, {"A1: 2 | A2: 1", "sort A1:A2 1 / undo / redo", "A1: 1 | A2: 2", nil},
		// Lines that make no other one are passed over.
		{"A1: 0", "set A1 1 / set A1 1 / undo", "A1: 0", nil}, {"A1: 0", "set A1 1 / show A1 / check A1 1 / undo / show A1", "A1: 0", []string{"A1 = 1", "A1 = 0"}}, {"A1: 0", "set A1 1 / clear B1:GR1000 / undo", "A1: 0", nil}, {"A1: 0 | N: =1", "set A1 1 / name N =1 / undo", "A1: 0 | N: =1", nil}, {"A1: 0", "set A1 1 / insert rows 5 1 / delete cols 9 1 / undo", "A1: 0", nil}, {"A1: 0", "set A1 1 / copy A1:A1 A1 / copy A5:A6 A7 / move A1:A1 A1 / move B5:B6 B7 / sort A1:A1 1 / undo", "A1: 0", nil}, {"A1: 0", "set A1 1 / print 20 1 / undo", "A1: 0", []string{"Page 1 of 1 A1:A1", "  1"}},
		// And they leave what may be done again.
		{"A1: 0", "set A1 1 / undo / set A1 0 / show A1 / check A1 0 / clear B1:B1 / redo", "A1: 1", []string{"A1 = 0"}}, {"A1: 0 | N: =1", "set A1 1 / undo / name N =1 / insert rows 2 1 / move A1:A1 A1 / print 20 1 / redo", "A1: 1 | N: =1", []string{"Page 1 of 1 A1:A1", "  0"}}, {"A1: 0", "set A1 1 / set A1 2 / undo / undo / show A1 / redo / set A1 1 / redo", "A1: 2", []string{"A1 = 0"}},
		// A text that is told in another way makes another sheet.
		{"A1: = a2", "insert rows 9 1 / undo", "A1: = a2", nil}, {"A1: = a2", "insert rows 9 1 / insert rows 9 1 / undo", "A1: = a2", nil}, {"A1: = a2", "copy A1:A1 A1 / undo", "A1: = a2", nil}, {"A1: = a2", "copy A1:A1 A1 / move A1:A1 A1 / undo", "A1: = a2", nil}, {"A1: 1", "set A1 1.0 / undo", "A1: 1", nil}, {"A1: = a2", "sort A1:A1 1 / undo", "A1: = a2", nil},
		// To the start's own and on again: the same as it was counts for nothing.
		{"A1: 0", "set A1 1 / set A1 0 / undo", "A1: 1", nil}, {"A1: 0", "set A1 1 / set A1 0 / undo / undo", "A1: 0", nil}, {"", "set A1 1 / clear A1:A1 / undo / redo / undo", "A1: 1", nil},
	})
}

func TestNothingToUndo(t *testing.T) {
	for _, c := range []struct {
		start, lines, sheet string
		line                int
	}{
		{"", "undo", "", 1}, {"", "redo", "", 1}, {"A1: 0", "set A1 1 / undo / undo", "A1: 0", 3}, {"A1: 0", "set A1 1 / redo", "A1: 1", 2}, {"A1: 0", "set A1 1 / undo / redo / redo", "A1: 1", 4}, {"A1: 0", "set A1 1 / undo / set A1 2 / redo", "A1: 2", 4}, {"A1: 0", "set A1 1 / set A1 2 / undo / undo / undo", "A1: 0", 5}, {"A1: 0", "set A1 1 / set A1 2 / undo / undo / redo / redo / redo", "A1: 2", 7}, {"A1: 0", "set A1 1 / set A1 2 / undo / undo / redo / set A1 5 / redo", "A1: 5", 7}, {"A1: 0", "set A1 1 / set A1 2 / undo / set A1 3 / undo / undo / undo", "A1: 0", 7}, {"A1: 0", "set A1 1 / undo / set A1 2 / undo / redo / redo", "A1: 2", 6}, {"A1: 0", "set A1 1 / set A1 2 / undo / undo / set A1 3 / undo / redo / redo", "A1: 3", 8},
		// What makes the same sheet on another way is another one.
		{"A1: 0", "set A1 1 / undo / set A1 1 / redo", "A1: 1", 4}, {"A1: 0", "set A1 1 / undo / set A1 1 / undo / undo", "A1: 0", 5},
		// Behind lines that make no other one.
		{"A1: 0", "set A1 0 / undo", "A1: 0", 2}, {"A1: 0", "check A1 0 / clear B1:B9 / insert rows 2 1 / undo", "A1: 0", 4}, {"", "copy A1:B2 A1 / move A1:B2 D4 / sort A1:B2 1 / delete cols 1 9 / redo", "", 5}, {"N: =1", "name N =1 / undo", "N: =1", 2}, {"A1: 0", "set A1 1 / set A1 1 / undo / undo", "A1: 0", 4},
	} {
		wantRan(t, sheetOf(c.start), macroOf(c.lines), impl.Ran{Err: 2, Line: c.line, Sheet: sheetOf(c.sheet)})
		wantRan(t, sheetOf(c.start), macroOf(c.lines+" / set B9 x / no line"), impl.Ran{Err: 2, Line: c.line, Sheet: sheetOf(c.sheet)})
	}
}

const macroStart = "A1: 3 | B1: =A1 | A2: 1 | B2: x | N: =A1"

// TestLinesOfNoKind: Err 1.
func TestLinesOfNoKind(t *testing.T) {
	checkEnds(t, macroStart, 1, "", " ", "  ", "x", "set", "Set A1 1", "SET A1 1", " set A1 1", "sets A1 1", "set\tA1 1", "\t", "\x00", "\xff", "\r", "setA1 1", "=A1", "A1", "undo\r")
	// A word too few or too many, a blank at the end, two blanks between words.
	full := []string{"clear A1:B2", "forget N", "insert rows 2 1", "insert cols 2 1", "delete rows 2 1", "delete cols 2 1", "copy A1:A2 D4", "move A1:A2 D4", "sort A1:B2 1", "sort A1:B2 1 down", "show A1", "show A1:B2", "print 20 1", "undo", "redo"}
	for _, line := range full {
		words := strings.Split(line, " ")
		checkEnds(t, macroStart, 1, line+" ", line+"  ", " "+line, line+" x", line+" 1", line+" A1", line+" down down", strings.ToUpper(line))
		for i := range len(words) - 1 {
			checkEnds(t, macroStart, 1, strings.Join(words[:i+1], " ")+"  "+strings.Join(words[i+1:], " "), strings.Join(words[:i+1], " ")+"\t"+strings.Join(words[i+1:], " "))
			// `sort` has one of two lengths.
			if words[i+1] != "down" {
				checkEnds(t, macroStart, 1, strings.Join(words[:i+1], " "), strings.Join(words[:i+1], " ")+" ")
			}
		}
	}
	// A text has 1 byte or more; a blank more is of the text, but not ahead of what comes first.
	for _, line := range []string{"set A1", "name N", "check A1"} {
		word, _, _ := strings.Cut(line, " ")
		checkEnds(t, macroStart, 1, word, word+" ", word+"  ", line, line+" ", word+"  "+line, " "+line+" =3", word+"  A1 =3", word+"\tA1 =3", line+"\t=3")
	}
	checkEnds(t, macroStart, 1, "set =3", "check 3", "name =3", "set A1:A1 3", "check A1:A1 3", "set A1:B2 3", "set 3 A1", "set rows 1")
	// Other words.
	checkEnds(t, macroStart, 1, "insert row 2 1", "insert col 2 1", "insert Rows 2 1", "insert columns 2 1", "insert 2 1", "insert 2 1 rows", "delete 2 1", "delete rows A1:A2", "delete A1:A2", "sort A1:B2 1 up", "sort A1:B2 1 Down", "sort A1:B2 1 DOWN", "sort A1:B2 1 down 2", "sort A1:B2 down", "sort A1:B2 down 1", "sort A1:B2 A", "sort A1 1", "sort 1 A1:B2", "show", "show x", "show A1 B2", "show 1", "print", "print 20", "print A1:B2", "print A1 B2", "undo 1", "redo 1", "undo undo")
}

// TestLinesWithoutAddresses: what is no address, where one should be.
func TestLinesWithoutAddresses(t *testing.T) {
	none := []string{"", "$A$1", "$A1", "A$1", "a1", "A0", "A01", "A001", "A1001", "A9999", "GS1", "ZZ1", "AAA1", "A", "1", "1A", "A-1", "A+1", "A 1", "R1C1", "RC", "R[1]C[1]", "A1.", "A1,", "'A1", "=A1", "A1\r", "A1\x00", "\u00c41", "N", "A99999999999999999999"}
	for _, at := range none {
		checkEnds(t, macroStart, 1, "set "+at+" 3", "check "+at+" 3", "show "+at, "copy A1:A1 "+at, "move A1:A1 "+at)
		// None of the two of an area may be so.
		for _, pair := range []string{at, at + ":A1", "A1:" + at, at + ":" + at} {
			checkEnds(t, macroStart, 1, "clear "+pair, "copy "+pair+" D4", "move "+pair+" D4", "sort "+pair+" 1")
			if pair != at {
				checkEnds(t, macroStart, 1, "show "+pair)
			}
		}
	}
	for _, pair := range []string{"A1", "A1:", ":A1", ":", "A1::B2", "A1:B2:", ":A1:B2", "A1:B2:C3", "A1;B2", "A1-B2", "A1..B2", "A1 B2", "A1: B2", "A1 :B2", "A:B", "1:2", "A1:R1C1"} {
		checkEnds(t, macroStart, 1, "clear "+pair, "copy "+pair+" D4", "move "+pair+" D4", "sort "+pair+" 1")
		if pair != "A1" {
			checkEnds(t, macroStart, 1, "show "+pair)
		}
	}
	checkEnds(t, macroStart, 1, "copy A1:A1 D4:D4", "move A1:A1 D4:D4", "copy A1 D4", "move A1 D4", "copy D4 A1:A1")
}

// TestNumbersOfLines: those of 1..4 digits are numbers, whatever they say; others are none.
func TestNumbersOfLines(t *testing.T) {
	forms := []string{"insert rows # 1", "insert rows 2 #", "insert cols # 1", "delete cols 2 #", "delete rows # 1", "sort A1:B2 #", "sort A1:B2 # down", "print # 9", "print 20 #"}
	for _, number := range []string{"", "+1", "-1", "-0", "1.0", "1.", "1E0", "0x1", "1_0", "00001", "12345", "00000", "10000", "99999999999999999999", "one", "A1", "1a", "\u0661", "1,", "(1)", "1\r"} {
		for _, form := range forms {
			checkEnds(t, macroStart, 1, strings.ReplaceAll(form, "#", number))
		}
	}
	for _, number := range []string{"0", "00", "0000", "1001", "9999"} {
		for _, form := range forms {
			checkEnds(t, macroStart, 2, strings.ReplaceAll(form, "#", number))
		}
	}
	for _, number := range []string{"1", "01", "001", "0001"} {
		checkRuns(t, []ranWell{{"A1: x | A2: =A1", "insert rows " + number + " 1", "A2: x | A3: =A2", nil}, {"A1: x | B1: =A1", "delete cols 2 " + number, "A1: x", nil}, {"A1: 2 | A2: 1", "sort A1:A2 " + number, "A1: 1 | A2: 2", nil}, {"A1: 1", "print 20 " + number, "A1: 1", []string{"Page 1 of 1 A1:A1", "  1"}}})
	}
	wantRan(t, sheetOf("A1: x | A1000: =A1"), macroOf("delete rows 1000 0001"), impl.Ran{Sheet: sheetOf("A1: x")})
}

// TestNamesOfLines: what is no name, or has small letters, is Err 1; a function's is Err 2.
func TestNamesOfLines(t *testing.T) {
	for _, name := range []string{"", "A1", "GR1000", "R", "C", "RC", "R1C1", "R5", "C7", "TRUE", "FALSE", "1", "1A", ".A", "A-", "A$", "$A", "A:B", "=N", "\u00c4", "A\x00", strings.Repeat("N", 21), strings.Repeat("N", 500)} {
		checkEnds(t, macroStart, 1, "name "+name+" =1", "forget "+name)
	}
	for _, name := range []string{"n", "tax", "Tax", "TAx", "_a", "sum", "if", strings.Repeat("n", 20)} {
		checkEnds(t, macroStart, 1, "name "+name+" =1")
		// It is a name, but none that is there.
		checkEnds(t, macroStart, 2, "forget "+name)
	}
	for _, name := range append(impl.FunctionNames(), "IF", "IFERROR", "LET", "LAMBDA", "MAP", "REDUCE", "BYROW") {
		checkEnds(t, macroStart, 2, "name "+name+" =1", "forget "+name)
	}
	checkEnds(t, macroStart, 2, "forget M", "forget NN", "forget _", "forget NOSUCH")
	checkEnds(t, "", 2, "forget N")
	wantRan(t, sheetOf("N: =1"), macroOf("forget N / forget N"), impl.Ran{Err: 2, Line: 2})
}

func TestTextsOfLines(t *testing.T) {
	// Bytes 10 end lines.
	for _, text := range []string{"\x00", "a\x1f", "\x7f", "=\t1", "\xff", "=\u00e9", "1\r", "\r", letters(2001), "=" + strings.Repeat(" ", 1999) + "1", letters(9000)} {
		checkEnds(t, macroStart, 2, "set A1 "+text, "set C9 "+text, "name N "+text, "name M "+text, "name N ="+text)
		checkEnds(t, macroStart, 3, "check A1 "+text, "check GR1 "+text)
	}
	for _, text := range []string{"1", "x", "'=1", " =1", "  ", " ", "N =1", "TRUE"} {
		checkEnds(t, macroStart, 2, "name N "+text, "name M "+text)
	}
	for _, text := range []string{letters(1999), letters(2000), "=" + strings.Repeat(" ", 1998) + "1", strings.Repeat(" ", 2000), "~"} {
		want := impl.Sheet{Cells: []impl.Cell{{Row: 1, Col: 1, Text: text}}}
		wantRan(t, sheetOf("A1: 1"), "set A1 "+text+"\n", impl.Ran{Sheet: want})
	}
	for _, text := range []string{"=", "=1+", "=" + letters(1999), "=" + strings.Repeat(" ", 1998) + "1"} {
		want := impl.Sheet{Names: []impl.Named{{Name: "M", Text: text}}}
		wantRan(t, impl.Sheet{}, "name M "+text+"\n", impl.Ran{Sheet: want})
	}
}

// TestLinesThatCannotBeDone: Err 2.
func TestLinesThatCannotBeDone(t *testing.T) {
	// Turns that are not good.
	for _, line := range []string{"rows 0 1", "rows 1 0", "rows 1001 1", "rows 1 101", "rows 9999 9999", "cols 0 1", "cols 1 0", "cols 201 1", "cols 1 101", "cols 1000 1"} {
		checkEnds(t, macroStart, 2, "insert "+line, "delete "+line)
	}
	checkEnds(t, macroStart, 2, "delete rows 1000 2", "delete rows 902 100", "delete cols 200 2", "delete cols 102 100")
	checkRuns(t, []ranWell{{"A1: x", "insert rows 1000 2 / insert rows 902 100 / insert cols 200 2 / insert cols 102 100", "A1: x", nil}})
	// Beyond the last places.
	for _, way := range []string{"A1:B2 GR1", "A1:B2 A1000", "A1:B2 GR1000", "B2:A1 GR999", "A1:GR1000 A2", "A1:GR1000 B1", "C5:C6 A1000", "A1:A1000 A2", "A1:GR1 B1"} {
		checkEnds(t, macroStart, 2, "copy "+way, "move "+way)
	}
	// Columns that are none, and areas of too many cells.
	checkEnds(t, macroStart, 2, "sort A1:B2 0", "sort A1:B2 3", "sort A1:B2 3 down", "sort B1:B2 2", "sort A1:A1 2", "sort A1:B2 9999", "sort A1:GR11 1", "sort A1:C1000 1", "sort A1:GR1000 1 down")
	// Pages that are told the other way round; widths and heights that may not be.
	checkEnds(t, macroStart, 2, "show B2:A1", "show A2:A1", "show B1:A1", "show B1:A2", "show A2:B1", "show GR1000:A1")
	checkEnds(t, macroStart, 2, "print 19 1", "print 201 1", "print 20 0", "print 20 101", "print 0 0", "print 10 10", "print 9999 9999")
	checkEnds(t, "", 2, "print 19 1", "print 201 1", "print 20 0", "print 20 101", "show B2:A1", "sort A1:B2 3", "move A1:B2 A1000", "copy A1:B2 A1000")
}

func TestLinesOnFullSheets(t *testing.T) {
	full := impl.Sheet{Cells: manyCells(300, "1"), Names: manyNames(40, "=A1")}
	for _, line := range []string{"set A16 x", "copy A1:A1 A16", "copy A1:T15 A2", "name M =1", "name N =1"} {
		wantRan(t, full, "show A1\n"+line+"\nshow A1\n", impl.Ran{Err: 2, Line: 2, Sheet: full, Out: []string{"A1 = 1"}})
	}
	for _, lines := range []string{"set A1 1", "copy A1:T15 A1", "clear A16:T20", "name N_007 =A1", "clear A1:A1 / set A1 1", "forget N_007 / name N_007 =A1", "set A1 2 / undo", "copy A1:A1 T15"} {
		wantRan(t, full, macroOf(lines), impl.Ran{Sheet: full})
	}
	// One that goes makes room.
	want := impl.Sheet{Cells: append(slices.Clone(full.Cells[1:]), impl.Cell{Row: 16, Col: 1, Text: "x"}), Names: full.Names}
	wantRan(t, full, macroOf("clear A1:A1 / set A16 x"), impl.Ran{Sheet: want})
	wantRan(t, full, macroOf("clear A1:A1 / set A16 x / set A17 x"), impl.Ran{Err: 2, Line: 3, Sheet: want})
}

// TestChecks: Err 3.
func TestChecks(t *testing.T) {
	checkEnds(t, macroStart, 3, "check A1 4", "check A1 3 ", "check A1  3", "check A1 3.0", "check A1 x", "check B1 =A1", "check B2 X", "check B2 'x", "check B2 xx", "check C1  ", "check GR1000 x", "check C1 0", "check A1 A1", "check A1 "+letters(3000))
	checkRuns(t, []ranWell{{macroStart, "check A1 3 / check B1 3 / check B2 x", macroStart, nil}})
	// It is held against what is shown there then.
	wantRan(t, sheetOf("A1: 1 | B1: =A1"), macroOf("show B1 / set A1 2 / show B1 / check B1 1 / show B1"), impl.Ran{Err: 3, Line: 4, Sheet: sheetOf("A1: 2 | B1: =A1"), Out: []string{"B1 = 1", "B1 = 2"}})
	wantRan(t, sheetOf("A1: 1 | B1: =A1"), macroOf("set A1 2 / undo / check B1 2"), impl.Ran{Err: 3, Line: 3, Sheet: sheetOf("A1: 1 | B1: =A1")})
}

func TestLongMacros(t *testing.T) {
	start := sheetOf("A1: 1 | N: =A1")
	// Lines of 2000 bytes each, with the byte that ends them.
	long := strings.Repeat("set A1 "+letters(1992)+"\n", 5)
	want := impl.Sheet{Cells: []impl.Cell{{Row: 1, Col: 1, Text: letters(1992)}}, Names: start.Names}
	wantRan(t, start, long, impl.Ran{Sheet: want})
	wantRan(t, start, long[1:], impl.Ran{Err: 1, Line: 1, Sheet: start})
	wantRan(t, start, long[:9998]+"\n", impl.Ran{Sheet: impl.Sheet{Cells: []impl.Cell{{Row: 1, Col: 1, Text: letters(1991)}}, Names: start.Names}})
	for _, more := range []string{long[:9999] + "x\n", long + "\n", long + "x", "show A1\n" + long, strings.Repeat(long, 100), strings.Repeat("\n", 10001), strings.Repeat("x", 10001)} {
		wantRan(t, start, more, impl.Ran{Err: 1, Sheet: start})
	}
	var told []string
	for n := range 100 {
		wantRan(t, start, strings.Repeat("show A1\n", n), impl.Ran{Sheet: start, Out: told})
		told = append(told, "A1 = 1")
	}
	wantRan(t, start, strings.Repeat("show A1\n", 100), impl.Ran{Sheet: start, Out: told})
	for _, n := range []int{101, 102, 200, 1000} {
		wantRan(t, start, strings.Repeat("show A1\n", n), impl.Ran{Err: 1, Sheet: start})
		// Whatever stands in it.
		wantRan(t, start, "check A1 2\n"+strings.Repeat("show A1\n", n-1), impl.Ran{Err: 1, Sheet: start})
		wantRan(t, start, strings.Repeat("\n", n), impl.Ran{Err: 1, Sheet: start})
	}
	wantRan(t, start, strings.Repeat("\n", 100), impl.Ran{Err: 1, Line: 1, Sheet: start})
	wantRan(t, start, strings.Repeat("show A1\n", 99)+"undo\n", impl.Ran{Err: 2, Line: 100, Sheet: start, Out: told[:99]})
}

func TestMacrosThatDoNotEnd(t *testing.T) {
	start := sheetOf("A1: 1 | N: =A1")
	for _, text := range []string{"set A1 2", "x", " ", "\r", "set A1 2\nset A1 3", "show A1\n ", "show A1\n\nx", "\nx", "undo", "set A1 2\n\r", "set A1 2\x00", "show A1\nshow A1"} {
		wantRan(t, start, text, impl.Ran{Err: 1, Sheet: start})
		wantRan(t, impl.Sheet{}, text, impl.Ran{Err: 1})
	}
	for _, text := range []string{"\n", "\n\n", "\nset A1 2\n", " \n", "\r\n"} {
		wantRan(t, start, text, impl.Ran{Err: 1, Line: 1, Sheet: start})
	}
	wantRan(t, start, "set A1 2\n\n", impl.Ran{Err: 1, Line: 2, Sheet: sheetOf("A1: 2 | N: =A1")})
	wantRan(t, start, "", impl.Ran{Sheet: start})
	wantRan(t, impl.Sheet{}, "", impl.Ran{})
}

// TestMuchTold: as many lines as may be told, and one more.
func TestMuchTold(t *testing.T) {
	start := sheetOf("A1: 1")
	lines := make([]string, 3000)
	for i := range 3 {
		lines[i*1000] = "  1"
	}
	three := "show A1:A1000 / show A1:A1000 / show A1:A1000"
	wantRan(t, start, macroOf(three), impl.Ran{Sheet: start, Out: lines})
	// What tells nothing may come yet.
	wantRan(t, start, macroOf(three+" / check A1 1 / set A1 2"), impl.Ran{Sheet: sheetOf("A1: 2"), Out: lines})
	wantRan(t, start, macroOf(three+" / clear A1:A1 / print 20 1"), impl.Ran{Out: lines})
	for _, line := range []string{"show A1", "show B1", "show C1:C1", "show A1:A1000", "print 20 1", "show A1:GR1000"} {
		wantRan(t, start, macroOf(three+" / "+line+" / set A1 3"), impl.Ran{Err: 2, Line: 4, Sheet: start, Out: lines})
	}
	// All lines of one, or none of them.
	two := "show A1:A1000 / show A1:A1000 / show A1:A999"
	almost := slices.Clone(lines[:2999])
	wantRan(t, start, macroOf(two+" / show A1"), impl.Ran{Sheet: start, Out: append(slices.Clone(almost), "A1 = 1")})
	wantRan(t, start, macroOf(two+" / show A1:A2"), impl.Ran{Err: 2, Line: 4, Sheet: start, Out: almost})
	wantRan(t, start, macroOf(two+" / print 20 1"), impl.Ran{Err: 2, Line: 4, Sheet: start, Out: almost})
	wantRan(t, start, macroOf(two[:len(two)-1]+"8 / print 20 1"), impl.Ran{Sheet: start, Out: append(slices.Clone(almost[:2998]), "Page 1 of 1 A1:A1", "  1")})
	// A page's lines and titles, which are too many by themselves.
	wantRan(t, sheetOf("A1000: 1 | GR1: 1"), macroOf("print 20 1"), impl.Ran{Err: 2, Line: 1, Sheet: sheetOf("A1000: 1 | GR1: 1")})
	wantRan(t, sheetOf("GR1000: 1"), macroOf("show A1:GR1000 / show A1:GR1000 / show GR1:GR1000 / show A1"), impl.Ran{Err: 2, Line: 4, Sheet: sheetOf("GR1000: 1"), Out: slices.Concat(make([]string, 999), []string{spaces(199*4) + "  1"}, make([]string, 999), []string{spaces(199*4) + "  1"}, make([]string, 999), []string{"  1"})})
}

func TestStartsThatAreNotGood(t *testing.T) {
	for _, s := range append(noSheets(), sheetOf("A1: 1 | SUM: =1"), sheetOf("A1: 1 | n: =1"), sheetOf("A1: 1 | N: 1")) {
		for _, text := range []string{"", "\n", "show A1\n", "clear A1:GR1000\n", "undo\n", "no line", letters(20000), strings.Repeat("show A1\n", 101)} {
			wantRan(t, s, text, impl.Ran{Err: 2})
		}
	}
	for _, s := range goodSheets() {
		wantRan(t, s, "", impl.Ran{Sheet: s})
		wantRan(t, s, "undo\n", impl.Ran{Err: 2, Line: 1, Sheet: s})
		wantRan(t, s, "no line", impl.Ran{Err: 1, Sheet: s})
	}
}

// TestRunsAreNewMemory writes into answers and arguments, and asks again.
func TestRunsAreNewMemory(t *testing.T) {
	start := func() impl.Sheet { return sheetOf("A1: 2 | A2: 1 | B1: =A1 | M: =1 | N: =A1") }
	for _, lines := range []string{"", "show A1", "show A1:A2 / print 20 1", "set A1 2", "set A1 3", "set A1 3 / undo", "set A1 3 / undo / redo / show A1", "no line", "show A1 / no line", "check A1 5", "name N =2 / forget M / undo", "insert rows 1 1 / show A1 / undo", "copy A1:A1 A1 / move A1:A1 A1 / sort A1:A1 1"} {
		for _, text := range []string{macroOf(lines), lines} {
			s := start()
			got := impl.RunMacro(s, text)
			want := impl.Ran{Err: got.Err, Line: got.Line, Sheet: cloned(got.Sheet), Out: slices.Clone(got.Out)}
			clear(s.Cells)
			clear(s.Names)
			if !sameRuns(got, want) {
				t.Errorf("%q: %s when what was handed in is written into", text, toldRan(got))
			}
			_, _, _ = append(got.Sheet.Cells, impl.Cell{Text: "?"}), append(got.Sheet.Names, impl.Named{Text: "?"}), append(got.Out, "?")
			clear(got.Sheet.Cells)
			if !slices.Equal(got.Sheet.Names, want.Sheet.Names) || !slices.Equal(got.Out, want.Out) {
				t.Errorf("%q: %s when another list of the answer is written into", text, toldRan(got))
			}
			clear(got.Sheet.Names)
			clear(got.Out)
			wantRan(t, start(), text, want)
		}
	}
}
