package tests

import (
	"slices"
	"testing"

	"loop.example/g00025/impl"
)

// wantBlock asks for the sheet that something makes of another one, which stays as it was.
func wantBlock(t *testing.T, what any, s impl.Sheet, makes func(s impl.Sheet) impl.Sheet, want impl.Sheet) {
	t.Helper()
	was := cloned(s)
	got := makes(s)
	if !sameSheets(got, want) {
		t.Errorf("%v\n of   %.300s\n is   %.300s\n want %.300s", what, toldSheet(s), toldSheet(got), toldSheet(want))
	}
	if !impl.GoodSheet(got) {
		t.Errorf("%v of %.300s: no good sheet", what, toldSheet(s))
	}
	if !sameSheets(s, was) {
		t.Errorf("%v of %.300s: the sheet was written into", what, toldSheet(was))
	}
}

func wantCopied(t *testing.T, s impl.Sheet, from impl.Area, row, col int, want impl.Sheet) {
	t.Helper()
	wantBlock(t, []any{"copy", from, row, col}, s, func(s impl.Sheet) impl.Sheet { return impl.CopyBlock(s, from, row, col) }, want)
}

func wantMovedBlock(t *testing.T, s impl.Sheet, m impl.Move, want impl.Sheet) {
	t.Helper()
	wantBlock(t, []any{"move", m}, s, func(s impl.Sheet) impl.Sheet { return impl.MoveBlock(s, m) }, want)
}

func wantSortedBlock(t *testing.T, s impl.Sheet, a impl.Area, keys []impl.SortKey, want impl.Sheet) {
	t.Helper()
	was := slices.Clone(keys)
	wantBlock(t, []any{"sort", a, keys}, s, func(s impl.Sheet) impl.Sheet { return impl.SortBlock(s, a, keys) }, want)
	if !slices.Equal(keys, was) {
		t.Errorf("%v was written into", was)
	}
}

// checkCopies has sheets, areas, where their first cells come to stand, and the sheets then.
func checkCopies(t *testing.T, copies [][4]string) {
	t.Helper()
	for _, c := range copies {
		m := moveOf(t, c[1], c[2])
		wantCopied(t, sheetOf(c[0]), m.From, m.Row, m.Col, sheetOf(c[3]))
	}
}

func checkMoves(t *testing.T, moves [][4]string) {
	t.Helper()
	for _, c := range moves {
		wantMovedBlock(t, sheetOf(c[0]), moveOf(t, c[1], c[2]), sheetOf(c[3]))
	}
}

// checkSortedBlocks has sheets, areas, keys, and the sheets then.
func checkSortedBlocks(t *testing.T, sorted [][4]string) {
	t.Helper()
	for _, c := range sorted {
		wantSortedBlock(t, sheetOf(c[0]), readArea(c[1]), keysOf(c[2]), sheetOf(c[3]))
	}
}

func TestCopiedBlocks(t *testing.T) {
	checkCopies(t, [][4]string{
		{"A1: 1 | B2: x", "A1:B2", "D5", "A1: 1 | B2: x | D5: 1 | E6: x"}, {"A1: 1", "A1:A1", "GR1000", "A1: 1 | GR1000: 1"}, {"GR1000: 1", "GR1000:GR1000", "A1", "A1: 1 | GR1000: 1"}, {"", "A1:B2", "C3", ""},
		// Where there is no text there is none then; what stands beside stays.
		{"A1: 1 | D5: y | E5: z | D6: u | F5: v", "A1:B2", "D5", "A1: 1 | D5: 1 | F5: v"}, {"D5: y | E6: z", "A1:B2", "D5", ""}, {"D5: y", "A1:A1", "D5", ""}, {"A1: 1 | B1: 2 | A2: 3", "A1:A1", "B1", "A1: 1 | B1: 1 | A2: 3"},
		// Formulas as they are filled there, told anew; other texts as they are.
		{"A1: =B2+$B2+B$2+$B$2", "A1:A1", "C5", "A1: =B2+$B2+B$2+$B$2 | C5: =D6+$B6+D$2+$B$2"}, {"B2: =a1 + sum( b1:c9 )", "B2:B2", "C3", "B2: =a1 + sum( b1:c9 ) | C3: =B2+SUM(C2:D10)"}, {"B2: =A1 | C3: =A2", "B2:C3", "A1", "A1: =#REF! | B2: =#REF! | C3: =A2"}, {"A1: =GR1000+GQ999", "A1:A1", "B2", "A1: =GR1000+GQ999 | B2: =#REF!+GR1000"}, {"A1: '=B1 | A2:  =B1 | A3: B1 | A4: =B1+ | A5: =", "A1:A5", "B1", "A1: '=B1 | A2:  =B1 | A3: B1 | A4: =B1+ | A5: = | B1: '=B1 | B2:  =B1 | B3: B1 | B4: =B1+ | B5: ="},
		// Names stay as they are, and are meant by what is copied, too.
		{"A1: =n+A2 | N: = a1", "A1:A1", "B1", "A1: =n+A2 | B1: =n+B2 | N: = a1"},
		// Told the other way round, and with fixes.
		{"A1: 1 | B2: x", "B2:A1", "D5", "A1: 1 | B2: x | D5: 1 | E6: x"}, {"A1: 1 | B2: x", "B1:A2", "D5", "A1: 1 | B2: x | D5: 1 | E6: x"}, {"A1: 1 | B2: x", "$A2:B$1", "D5", "A1: 1 | B2: x | D5: 1 | E6: x"},
	})
}

// TestCopiesUponThemselves: what is put is what stood there ahead of it all.
func TestCopiesUponThemselves(t *testing.T) {
	checkCopies(t, [][4]string{
		{"A1: 1 | A2: =A1 | B1: x", "A1:A2", "A1", "A1: 1 | A2: =A1 | B1: x"}, {"A1: = a2 | B1: = a2", "A1:A1", "A1", "A1: =A2 | B1: = a2"}, {"A1: =A2+ | B1: =b2", "A1:B1", "A1", "A1: =A2+ | B1: =B2"},
		{"A1: 1 | A2: 2 | A3: 3", "A1:A3", "A2", "A1: 1 | A2: 1 | A3: 2 | A4: 3"}, {"A1: 1 | A2: 2 | A3: 3", "A2:A3", "A1", "A1: 2 | A2: 3 | A3: 3"}, {"A1: =B1 | A3: =B3", "A1:A3", "A2", "A1: =B1 | A2: =B2 | A4: =B4"}, {"A1: 1 | B1: 2 | A2: 3", "A1:B2", "B2", "A1: 1 | B1: 2 | A2: 3 | B2: 1 | C2: 2 | B3: 3"}, {"A1: =A1 | B2: =b2", "A1:B2", "B2", "A1: =A1 | B2: =B2 | C3: =C3"},
	})
}

func TestCopiesAtTheLastPlaces(t *testing.T) {
	checkCopies(t, [][4]string{
		{"A1: 1 | B2: 2", "A1:B2", "GQ999", "A1: 1 | B2: 2 | GQ999: 1 | GR1000: 2"}, {"A1: 1 | B2: 2", "A1:B2", "GQ1000", ""}, {"A1: 1 | B2: 2", "A1:B2", "GR999", ""}, {"A1: 1 | B2: 2", "A1:B2", "GR1000", ""}, {"A1: 1", "A1:GR1000", "A1", "A1: 1"}, {"A1: 1", "A1:GR1000", "A2", ""}, {"A1: 1", "A1:GR1000", "B1", ""}, {"A1: 1", "A1:GR999", "A2", "A1: 1 | A2: 1"}, {"A1: 1", "A1:GQ1000", "B1", "A1: 1 | B1: 1"},
		// Where nothing stands it must have good places, too.
		{"A1: 1", "A1:A2", "B1000", ""}, {"A1: 1", "A1:B1", "GR5", ""}, {"A1: 1", "C5:C6", "A1000", ""},
	})
}

func TestCopiesOfLongTexts(t *testing.T) {
	for _, c := range []struct{ text, want string }{
		// A9 becomes A10.
		{tailed("=A9", 1999), tailed("=A10", 2000)}, {tailed("=A9", 2000), tailed("=A9", 2000)}, {tailed("=A$9", 2000), tailed("=A$9", 2000)}, {tailed("=A8", 2000), tailed("=A9", 2000)}, {tailed("= a9", 2000), tailed("=A10", 2000)}, {tailed("=A1000", 2000), tailed("=#REF!", 2000)}, {tailed("=A1+1E9", 1993), tailed("=A2+1000000000", 2000)}, {tailed("=A1+1E9", 1994), tailed("=A1+1E9", 1994)},
	} {
		s := impl.Sheet{Cells: []impl.Cell{{Row: 1, Col: 2, Text: c.text}}}
		want := impl.Sheet{Cells: []impl.Cell{{Row: 1, Col: 2, Text: c.text}, {Row: 2, Col: 2, Text: c.want}}}
		wantCopied(t, s, area(1, 2, 1, 2), 2, 2, want)
		// So it is when it is put in order with a row above it.
		below := impl.Sheet{Cells: []impl.Cell{{Row: 1, Col: 2, Text: c.text}, {Row: 2, Col: 1, Text: "1"}}}
		sorted := impl.Sheet{Cells: []impl.Cell{{Row: 1, Col: 1, Text: "1"}, {Row: 2, Col: 2, Text: c.want}}}
		wantSortedBlock(t, below, area(1, 1, 2, 2), keysOf("1"), sorted)
	}
	for _, c := range []struct{ text, want string }{
		{tailed("=A9", 1999), tailed("=B10", 2000)}, {tailed("=A9", 2000), tailed("=A9", 2000)}, {tailed("=A8", 2000), tailed("=A8", 2000)}, {tailed("= a9", 2000), tailed("=B10", 2000)}, {tailed("=$A$9:A9", 1998), tailed("=$B$10:B10", 2000)}, {tailed("=$A$9:A9", 1999), tailed("=$A$9:A9", 1999)},
	} {
		s := impl.Sheet{Cells: []impl.Cell{{Row: 1, Col: 2, Text: c.text}}, Names: []impl.Named{{Name: "N", Text: c.text}}}
		want := impl.Sheet{Cells: []impl.Cell{{Row: 1, Col: 2, Text: c.want}}, Names: []impl.Named{{Name: "N", Text: c.want}}}
		wantMovedBlock(t, s, impl.Move{From: area(9, 1, 9, 1), Row: 10, Col: 2}, want)
	}
}

func TestCopiesOnFullSheets(t *testing.T) {
	full := impl.Sheet{Cells: manyCells(300, "1"), Names: manyNames(40, "=A1")}
	less := impl.Sheet{Cells: full.Cells[:299], Names: full.Names}
	wantCopied(t, full, area(1, 1, 1, 1), 16, 1, impl.Sheet{})
	wantCopied(t, less, area(1, 1, 1, 1), 15, 20, full)
	wantCopied(t, less, area(1, 1, 1, 1), 16, 1, impl.Sheet{Cells: append(slices.Clone(less.Cells), impl.Cell{Row: 16, Col: 1, Text: "1"}), Names: full.Names})
	wantCopied(t, less, area(1, 1, 1, 2), 16, 1, impl.Sheet{})
	wantCopied(t, full, area(1, 1, 15, 20), 1, 1, full)
	wantCopied(t, full, area(1, 1, 15, 20), 1, 2, impl.Sheet{})
	// As many come as go, or more go.
	wantCopied(t, full, area(1, 1, 5, 20), 11, 1, full)
	wantCopied(t, full, area(16, 1, 30, 20), 1, 1, impl.Sheet{Names: full.Names})
	wantCopied(t, full, area(15, 1, 16, 20), 14, 1, impl.Sheet{Cells: full.Cells[:280], Names: full.Names})
	wantMovedBlock(t, full, impl.Move{From: area(1, 1, 15, 20), Row: 101, Col: 1}, impl.Perform(full, turnDo(0, rowsIn(1, 100))))
	wantSortedBlock(t, full, area(1, 1, 15, 20), keysOf("20v"), full)
}

func TestMovedBlocks(t *testing.T) {
	checkMoves(t, [][4]string{
		{"A1: 1 | B2: x", "A1:B2", "D5", "D5: 1 | E6: x"}, {"A1: 1", "A1:A1", "GR1000", "GR1000: 1"}, {"GR1000: 1", "GR1000:GR1000", "A1", "A1: 1"}, {"", "A1:B2", "C3", ""}, {"C3: 1", "A1:B2", "E9", "C3: 1"},
		// What stood there is gone, also where nothing comes to stand; what stands beside stays.
		{"A1: 1 | D5: y | E5: z | D6: u | F5: v", "A1:B2", "D5", "D5: 1 | F5: v"}, {"D5: y | E6: z", "A1:B2", "D5", ""}, {"A1: 1 | B1: 2", "A1:A1", "B1", "B1: 1"},
		// All formulas go along, of names too, wherever they stand, and are told anew.
		{"A1: 5 | B1: =A1+1 | C1: =b1 | N: =A1*2", "A1:A1", "D9", "B1: =D9+1 | C1: =B1 | D9: 5 | N: =D9*2"}, {"A1: =A2+$B$1+C3 | A2: 2 | B1: 3 | C3: 4", "A1:B2", "D5", "D5: =D6+$E$5+C3 | D6: 2 | E5: 3 | C3: 4"}, {"A1: =SUM(A2:B3)+SUM(A2:A4)+SUM(B3:A2) | A2: 2", "A2:B3", "D5", "A1: =SUM(D5:E6)+SUM(A2:A4)+SUM(E6:D5) | D5: 2"}, {"A1: = ( a1 ) | B1: =1+ | C1: '=A1 | M: = sum( a1 , true ) | N: =A1+", "A1:A1", "A2", "A2: =A2 | B1: =1+ | C1: '=A1 | M: =SUM(A2,TRUE) | N: =A1+"}, {"A1: =GR1000 | GR1000: 1", "A1:A1", "B2", "B2: =GR1000 | GR1000: 1"},
		// A ref to what is gone stays.
		{"A1: 1 | B1: 2 | C1: =A1+B1", "A1:A1", "B1", "B1: 1 | C1: =B1+B1"}, {"A1: 1 | B1: =A1 | C1: =B1", "A1:A1", "B1", "B1: 1 | C1: =B1"},
		{"A1: 1 | B2: x", "B2:A1", "D5", "D5: 1 | E6: x"}, {"A1: 1 | B2: =$B$2", "$A2:B$1", "D5", "D5: 1 | E6: =$E$6"},
	})
}

func TestMovesUponThemselves(t *testing.T) {
	checkMoves(t, [][4]string{
		// To where it is: all formulas are told anew.
		{"A1: 1 | A2: =A1 | B1: x", "A1:A2", "A1", "A1: 1 | A2: =A1 | B1: x"}, {"A1: = a2 | B1: = a2 | N: = a2", "A1:A1", "A1", "A1: =A2 | B1: =A2 | N: =A2"}, {"A1: 1 | B5: =a1", "A1:GR1000", "A1", "A1: 1 | B5: =A1"}, {"B5: =a1", "A1:A1", "A1", "B5: =A1"},
		{"A1: 1 | A2: 2 | A3: 3", "A1:A3", "A2", "A2: 1 | A3: 2 | A4: 3"}, {"A1: 1 | A2: 2 | A3: 3", "A2:A3", "A1", "A1: 2 | A2: 3"}, {"A1: 1 | A3: =A1+A2", "A1:A3", "A2", "A2: 1 | A4: =A2+A3"}, {"A1: 1 | B1: 2 | A2: 3 | B3: y | C3: z", "A1:B2", "B2", "B2: 1 | C2: 2 | B3: 3"}, {"A1: 1 | A2: 2 | A4: =SUM(A1:A2)+A3", "A1:A2", "A2", "A2: 1 | A3: 2 | A4: =SUM(A2:A3)+A3"},
	})
}

func TestMovesAtTheLastPlaces(t *testing.T) {
	checkMoves(t, [][4]string{
		{"A1: 1 | B2: = a1", "A1:B2", "GQ999", "GQ999: 1 | GR1000: =GQ999"}, {"A1: 1", "A1:GR999", "A2", "A2: 1"}, {"A1: 1", "A1:GQ1000", "B1", "B1: 1"},
		// Beyond them it does nothing: the sheet is itself.
		{"A1: 1 | B2: = a1 | N: = a1", "A1:B2", "GQ1000", "A1: 1 | B2: = a1 | N: = a1"}, {"A1: 1 | B2: = a1", "A1:B2", "GR999", "A1: 1 | B2: = a1"}, {"A1: 1", "A1:GR1000", "A2", "A1: 1"}, {"A1: 1", "C5:C6", "A1000", "A1: 1"}, {"A1: = a2", "A1:GR1000", "B1", "A1: = a2"},
	})
	s := sheetOf("A1: 1 | B2: = a1 | C3: =A1+ | M: =1 | N: = a1")
	for _, m := range noMoves() {
		wantMovedBlock(t, s, m, s)
		wantMovedBlock(t, impl.Sheet{}, m, impl.Sheet{})
	}
}

func TestSortedBlocks(t *testing.T) {
	checkSortedBlocks(t, [][4]string{
		{"A1: 3 | A2: 1 | A3: 2", "A1:A3", "1", "A1: 1 | A2: 2 | A3: 3"}, {"A1: 3 | A2: 1 | A3: 2", "A1:A3", "1v", "A1: 3 | A2: 2 | A3: 1"}, {"A1: 3 | B1: x | A2: 1 | C2: y", "A1:B2", "1", "A1: 1 | A2: 3 | B2: x | C2: y"}, {"", "A1:B2", "1", ""}, {"C3: 1", "A1:B2", "2", "C3: 1"}, {"GR999: 2 | GR1000: 1", "GQ999:GR1000", "2", "GR999: 1 | GR1000: 2"},
		// Columns count from the area's first one on; keys one after the other.
		{"B2: b | C2: 1 | B3: a | C3: 2", "B2:C3", "1", "B2: a | C2: 2 | B3: b | C3: 1"}, {"B2: b | C2: 1 | B3: a | C3: 2", "B2:C3", "2", "B2: b | C2: 1 | B3: a | C3: 2"}, {"B2: b | C2: 1 | B3: a | C3: 2", "B2:C3", "2v", "B2: a | C2: 2 | B3: b | C3: 1"}, {"A1: 1 | B1: 2 | A2: 1 | B2: 1 | A3: 0", "A1:B3", "1 2", "A1: 0 | A2: 1 | B2: 1 | A3: 1 | B3: 2"}, {"A1: 1 | B1: 2 | A2: 1 | B2: 1 | A3: 0", "A1:B3", "1v 2v", "A1: 1 | B1: 2 | A2: 1 | B2: 1 | A3: 0"}, {"A1: 2 | A2: 1", "A1:A2", "1 1 1 1 1 1 1 1", "A1: 1 | A2: 2"},
		// By what is shown, not by the texts.
		{"A1: =B1 | A2: 2 | B1: 3", "A1:A2", "1", "A1: 2 | A2: =B2 | B1: 3"}, {"A1: 10 | A2: 9", "A1:A2", "1", "A1: 9 | A2: 10"}, {"A1: '9 | A2: '10", "A1:A2", "1", "A1: '10 | A2: '9"}, {"A1: =1/0 | A2: x | A4: 1", "A1:A4", "1", "A1: 1 | A2: x | A4: =1/0"}, {"A1: =1/0 | A2: x | A4: 1", "A1:A4", "1v", "A1: x | A2: 1 | A4: =1/0"}, {"A1: b | A2: B | A3: a", "A1:A3", "1", "A1: a | A2: b | A3: B"},
		// By what is laid down there, too, which has no text that goes.
		{"A1: ={3;1;2} | B1: x | B2: y | B3: z", "A1:B3", "1", "B1: y | B2: z | A3: ={3;1;2} | B3: x"}, {"A1: ={2;1} | B1: x", "A1:A2", "1", "A2: ={2;1} | B1: x"}, {"A1: ={3;1;2} | B1: x | B2: y | B3: z", "B1:B3", "1v", "A1: ={3;1;2} | B1: z | B2: y | B3: x"},
		// Told the other way round, and with fixes.
		{"A1: 3 | B1: x | A2: 1", "B2:A1", "1", "A1: 1 | A2: 3 | B2: x"}, {"A1: 3 | B1: x | A2: 1", "$B1:A$2", "2", "A1: 3 | B1: x | A2: 1"}, {"A1: 3 | B1: x | A2: 1 | B2: w", "B1:A2", "2", "A1: 1 | B1: w | A2: 3 | B2: x"},
	})
}

func TestFormulasInSortedBlocks(t *testing.T) {
	checkSortedBlocks(t, [][4]string{
		{"A1: 3 | B1: =A1+C9+$A$1+A$1 | A2: 1", "A1:B2", "1", "A1: 1 | A2: 3 | B2: =A2+C10+$A$1+A$1"}, {"A1: 3 | B1: =A1 | A2: 1 | B2: =a2 | A3: 2 | B3: =A1", "A1:B3", "1", "A1: 1 | B1: =A1 | A2: 2 | B2: =#REF! | A3: 3 | B3: =A3"}, {"A1: 2 | B1: =A1000 | A2: 1", "A1:B2", "1", "A1: 1 | A2: 2 | B2: =#REF!"}, {"A1: 2 | B1: =A1+ | A2: 1 | B2: '=A1", "A1:B2", "1", "A1: 1 | B1: '=A1 | A2: 2 | B2: =A1+"},
		// Those that stay are told anew, too; those beside the area and of names are not.
		{"A1: 1 | B1: = a1 | A2: 2 | C1: = a1 | N: = a1", "A1:B2", "1", "A1: 1 | B1: =A1 | A2: 2 | C1: = a1 | N: = a1"}, {"A1: 2 | A2: 1 | B1: =A1 | B2: = a2 | N: =A1", "A1:A2", "1", "A1: 1 | A2: 2 | B1: =A1 | B2: = a2 | N: =A1"},
		// No keys: all stay where they are.
		{"A1: 2 | A2: 1 | B1: = a2", "A1:B2", "", "A1: 2 | A2: 1 | B1: =A2"},
	})
}

func TestSortedBlocksThatAreNone(t *testing.T) {
	s := sheetOf("A1: 2 | B1: x | A2: 1 | N: =A1")
	for _, c := range [][2]string{{"A1:B2", "0"}, {"A1:B2", "3"}, {"A1:B2", "-1"}, {"B1:B2", "2"}, {"A1:B2", "1 3"}, {"A1:B2", "0 1"}, {"A1:B2", "1 1 1 1 1 1 1 1 1"}, {"A1:B1000", "3"}} {
		wantSortedBlock(t, s, readArea(c[0]), keysOf(c[1]), impl.Sheet{})
	}
	for _, col := range append([]int{3, 4, 200}, farNumbers...) {
		wantSortedBlock(t, s, area(1, 1, 2, 2), []impl.SortKey{{Col: col}}, impl.Sheet{})
		wantSortedBlock(t, s, area(1, 1, 2, 2), []impl.SortKey{{Col: 1}, {Col: col, Down: true}}, impl.Sheet{})
	}
	for _, a := range noAreas() {
		wantSortedBlock(t, s, a, keysOf("1"), impl.Sheet{})
		wantSortedBlock(t, s, a, nil, impl.Sheet{})
	}
	// As many cells as a grid may have, and more.
	sorted := sheetOf("A1: 1 | A2: 2 | B2: x | N: =A1")
	for _, a := range []impl.Area{area(1, 1, 1000, 2), area(1, 1, 10, 200), area(1, 1, 20, 100)} {
		wantSortedBlock(t, s, a, keysOf("1"), sorted)
	}
	for _, a := range []impl.Area{area(1, 1, 1000, 3), area(1, 1, 11, 200), area(1, 1, 21, 96), area(1, 1, 1000, 200), area(1, 1, 667, 3)} {
		wantSortedBlock(t, s, a, keysOf("1"), impl.Sheet{})
		wantSortedBlock(t, s, a, nil, impl.Sheet{})
	}
	// From the last row to the first.
	wantSortedBlock(t, sheetOf("A1000: x | B1000: =A999"), area(1, 1, 1000, 2), keysOf("1"), sheetOf("A1: x | B1: =#REF!"))
	wantSortedBlock(t, sheetOf("A1: =1/0 | B1: =A2"), area(1, 1, 1000, 2), keysOf("1"), sheetOf("A1000: =1/0 | B1000: =#REF!"))
}

func TestBlocksWhereSomethingIsNotGood(t *testing.T) {
	s := sheetOf("A1: 2 | A2: 1 | B1: =A1 | N: =A1")
	for _, a := range noAreas() {
		wantCopied(t, s, a, 1, 1, impl.Sheet{})
		wantMovedBlock(t, s, impl.Move{From: a, Row: 5, Col: 5}, s)
	}
	for _, p := range noPlaces() {
		for _, a := range []impl.Area{area(1, 1, 1, 1), area(1, 1, 2, 2), area(2, 2, 1, 1), area(9, 9, 9, 9), area(1000, 200, 1000, 200)} {
			wantCopied(t, s, a, p.Row, p.Col, impl.Sheet{})
			wantMovedBlock(t, s, impl.Move{From: a, Row: p.Row, Col: p.Col}, s)
		}
	}
	for _, bad := range append(noSheets(), sheetOf("A1: 1 | SUM: =1"), sheetOf("A1: 1 | n: =1"), sheetOf("A1: 1 | N: 1")) {
		wantCopied(t, bad, area(1, 1, 1, 1), 1, 1, impl.Sheet{})
		wantCopied(t, bad, area(1, 1, 2, 2), 500, 100, impl.Sheet{})
		wantMovedBlock(t, bad, impl.Move{From: area(1, 1, 2, 2), Row: 500, Col: 100}, impl.Sheet{})
		wantMovedBlock(t, bad, impl.Move{}, impl.Sheet{})
		wantSortedBlock(t, bad, area(1, 1, 2, 2), keysOf("1"), impl.Sheet{})
		wantSortedBlock(t, bad, area(1, 1, 2, 2), nil, impl.Sheet{})
	}
	for _, good := range goodSheets() {
		wantMovedBlock(t, good, impl.Move{}, good)
		wantCopied(t, good, impl.Area{}, 1, 1, impl.Sheet{})
	}
}

// TestBlocksAreNewMemory writes into answers and arguments, and asks again.
func TestBlocksAreNewMemory(t *testing.T) {
	start := func() impl.Sheet { return sheetOf("A1: 2 | A2: 1 | B1: =A1 | C3: x | M: =1 | N: =A1") }
	for i, makes := range []func(s impl.Sheet) impl.Sheet{
		func(s impl.Sheet) impl.Sheet { return impl.CopyBlock(s, area(1, 1, 1, 1), 1, 1) },
		func(s impl.Sheet) impl.Sheet { return impl.CopyBlock(s, area(1, 1, 2, 2), 5, 5) },
		func(s impl.Sheet) impl.Sheet { return impl.MoveBlock(s, impl.Move{}) },
		func(s impl.Sheet) impl.Sheet {
			return impl.MoveBlock(s, impl.Move{From: area(9, 9, 9, 9), Row: 9, Col: 9})
		},
		func(s impl.Sheet) impl.Sheet {
			return impl.MoveBlock(s, impl.Move{From: area(1, 1, 2, 2), Row: 9, Col: 9})
		},
		func(s impl.Sheet) impl.Sheet { return impl.SortBlock(s, area(1, 1, 2, 2), nil) },
		func(s impl.Sheet) impl.Sheet { return impl.SortBlock(s, area(1, 1, 2, 2), keysOf("1")) },
	} {
		s := start()
		got := makes(s)
		want := cloned(got)
		clear(s.Cells)
		clear(s.Names)
		if !sameSheets(got, want) || isZeroSheet(got) {
			t.Errorf("%d: %s when what was handed in is written into", i, toldSheet(got))
		}
		_, _ = append(got.Cells, impl.Cell{Text: "?"}), append(got.Names, impl.Named{Text: "?"})
		clear(got.Cells)
		if !slices.Equal(got.Names, want.Names) {
			t.Errorf("%d: %s when another list of the answer is written into", i, toldSheet(got))
		}
		clear(got.Names)
		wantBlock(t, i, start(), makes, want)
	}
}
