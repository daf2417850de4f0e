package tests

import (
	"fmt"
	"slices"
	"strings"
	"testing"

	"loop.example/g00025/impl"
)

// changesOf has changes as sheetOf takes cells, in the order told; `A1: ` takes a cell away.
func changesOf(text string) []impl.Change {
	var out []impl.Change
	for _, line := range strings.Split(text, " | ") {
		at, inner, _ := strings.Cut(line, ": ")
		if r, ok := impl.ReadRef(at); ok {
			out = append(out, impl.Change{Row: r.Row, Col: r.Col, Text: inner})
		}
	}
	return out
}

// placeOf is where the cell of a number stands.
func placeOf(s impl.Sheet, n int) string {
	if n < 0 || n >= len(s.Cells) {
		return fmt.Sprintf("no cell %d", n)
	}
	return impl.RefText(cell(s.Cells[n].Row, s.Cells[n].Col))
}

func placesOf(s impl.Sheet, numbers []int) string {
	var out []string
	for _, n := range numbers {
		out = append(out, placeOf(s, n))
	}
	return strings.Join(out, " ")
}

// linkMarks tells links as `B1>A1`: A1 needs B1.
func linkMarks(s impl.Sheet, links []impl.Link) string {
	var out []string
	for _, l := range links {
		out = append(out, placeOf(s, l.From)+">"+placeOf(s, l.To))
	}
	return strings.Join(out, " ")
}

func cycleMarks(s impl.Sheet, in []bool) string {
	var numbers []int
	for n, is := range in {
		if is {
			numbers = append(numbers, n)
		}
	}
	return placesOf(s, numbers)
}

func TestConstantOfChanges(t *testing.T) {
	if impl.MaxChanges != 1000 {
		t.Errorf("MaxChanges %d", impl.MaxChanges)
	}
}

// checkGraphs has sheets with their links, the order of their cells, and which of them need themselves.
func checkGraphs(t *testing.T, sheets [][4]string) {
	t.Helper()
	for _, c := range sheets {
		s := sheetOf(c[0])
		was := cloned(s)
		if !impl.GoodSheet(s) {
			t.Errorf("%s: no good sheet", c[0])
		}
		if got := linkMarks(s, impl.Links(s)); got != c[1] {
			t.Errorf("%s\n links %s\n want  %s", c[0], got, c[1])
		}
		if got := placesOf(s, impl.Order(s)); got != c[2] {
			t.Errorf("%s\n order %s\n want  %s", c[0], got, c[2])
		}
		in := impl.InCycle(s)
		if got := cycleMarks(s, in); got != c[3] || len(in) != len(s.Cells) {
			t.Errorf("%s\n of %d in cycles %s\n want %s", c[0], len(in), got, c[3])
		}
		if !sameSheets(s, was) {
			t.Errorf("%s: the sheet was written into", c[0])
		}
	}
}

func TestLinksByRefsAndAreas(t *testing.T) {
	checkGraphs(t, [][4]string{
		{"", "", "", ""}, {"N: =A1", "", "", ""}, {"A1: 1", "", "A1", ""}, {"A1: =2", "", "A1", ""}, {"A1: =B1", "", "A1", ""}, {"A1: 1 | B1: A1 | C1: '=A1 | D1:  =A1", "", "A1 B1 C1 D1", ""},
		{"A1: =B1+1 | B1: =C1 | C1: 5", "B1>A1 C1>B1", "C1 B1 A1", ""}, {"A1: 5 | B1: =A1 | C1: =B1+1", "A1>B1 B1>C1", "A1 B1 C1", ""},
		// By To, then From; one that is referred to twice is told once.
		{"A1: 1 | B1: =D1+A1+C1+A1 | C1: 2 | D1: 3", "A1>B1 C1>B1 D1>B1", "A1 C1 D1 B1", ""}, {"A1: 1 | B1: =A1+A1+$A$1+A$1+SUM(A1:A9)+SUM(A1:B0)", "", "A1 B1", ""}, {"A1: 1 | B1: =A1+A1+$A$1+A$1+SUM(A1:A9)+SUM(A9:A1)", "A1>B1", "A1 B1", ""},
		{"A1: 1 | A2: 2 | B3: 3 | C9: =SUM(A1:B3)", "A1>C9 A2>C9 B3>C9", "A1 A2 B3 C9", ""}, {"A1: 1 | A2: 2 | B3: 3 | C9: =SUM(B3:A1)", "A1>C9 A2>C9 B3>C9", "A1 A2 B3 C9", ""}, {"A1: 1 | A2: 2 | B3: 3 | C9: =SUM(B1:A3)", "A1>C9 A2>C9 B3>C9", "A1 A2 B3 C9", ""}, {"A1: 1 | A2: 2 | B3: 3 | C9: =SUM(A2:B9)", "A2>C9 B3>C9", "A1 A2 B3 C9", ""}, {"A1: 1 | GR1000: =SUM(A1:GR999)", "A1>GR1000", "A1 GR1000", ""}, {"A1: =COLUMNS(B1:GR1000) | GR1000: x | C5: y", "C5>A1 GR1000>A1", "C5 GR1000 A1", ""},
		// Whether it is asked for or not, and whatever it holds.
		{"A1: =IF(TRUE,1,B1) | B1: x", "B1>A1", "B1 A1", ""}, {"A1: =IFERROR(1,B1) | B1: '", "B1>A1", "B1 A1", ""}, {"A1: =NOSUCH(B1) | B1: =1+", "B1>A1", "B1 A1", ""}, {"A1: =LET(f,LAMBDA(x,B1),1) | B1: 1", "B1>A1", "B1 A1", ""},
		// What is no formula needs nothing; what is laid down is needed by none.
		{"A1: =B1+ | B1: 1", "", "A1 B1", ""}, {"A1: ={1,2} | A2: =B1", "", "A1 A2", ""}, {"A1: ={1,2} | A2: =A1:B1", "A1>A2", "A1 A2", ""}, {"B1: ={1,2} | A2: =A1:C1", "B1>A2", "B1 A2", ""},
	})
}

func TestLinksByNames(t *testing.T) {
	checkGraphs(t, [][4]string{
		{"A1: =N | B1: 1 | N: =B1", "B1>A1", "B1 A1", ""}, {"A1: =n+N | B1: 1 | N: =B1+B1", "B1>A1", "B1 A1", ""}, {"A1: =SUM(N)+C1 | B1: 1 | B2: 2 | C1: 3 | N: =B1:B9", "B1>A1 C1>A1 B2>A1", "B1 C1 B2 A1", ""},
		// By itself and by names: told once.
		{"A1: =B1+N | B1: 1 | N: =B1", "B1>A1", "B1 A1", ""}, {"A1: =P+Q | B1: 1 | P: =SUM(B1:B9) | Q: =B1", "B1>A1", "B1 A1", ""},
		// Names that stand in names, also round.
		{"A1: =P | B1: 1 | C1: 2 | P: =Q+C1 | Q: =B1", "B1>A1 C1>A1", "B1 C1 A1", ""}, {"A1: =P | B1: 1 | C1: 2 | P: =Q+C1 | Q: =P+B1", "B1>A1 C1>A1", "B1 C1 A1", ""}, {"A1: =Q | B1: 1 | C1: =P | P: =B1 | Q: =P", "B1>A1 B1>C1", "B1 A1 C1", ""}, {"A1: =P | P: =P", "", "A1", ""},
		// Names that are only called, or mean something else there.
		{"A1: =G(1) | B1: 1 | G: =LAMBDA(x,B1)", "B1>A1", "B1 A1", ""}, {"A1: =G(1) | B1: 1 | G: =B1", "B1>A1", "B1 A1", ""}, {"A1: =LET(g,5,g) | B1: 1 | G: =B1", "B1>A1", "B1 A1", ""}, {"A1: =MAP({1},LAMBDA(g,1)) | B1: 1 | G: =B1", "B1>A1", "B1 A1", ""}, {"A1: =MAP({1},G) | B1: 1 | G: =LAMBDA(x,H(x)) | H: =LAMBDA(x,B1)", "B1>A1", "B1 A1", ""}, {"A1: =IF(TRUE,1,G) | B1: 1 | G: =B1", "B1>A1", "B1 A1", ""},
		// A name that does not stand in it, is not there, or is no formula.
		{"A1: =1 | B1: 1 | G: =B1", "", "A1 B1", ""}, {"A1: =G | B1: 1 | GG: =B1", "", "A1 B1", ""}, {"A1: =G | B1: 1 | G: =B1+", "", "A1 B1", ""}, {"A1: =\"G\" | B1: 1 | G: =B1", "", "A1 B1", ""}, {"A1: G | B1: 1 | G: =B1", "", "A1 B1", ""},
	})
}

func TestCellsOfCycles(t *testing.T) {
	checkGraphs(t, [][4]string{
		{"A1: =A1", "A1>A1", "", "A1"}, {"A1: =A1 | B1: 2", "A1>A1", "B1", "A1"}, {"A1: =SUM(A1:C3) | B2: 2", "A1>A1 B2>A1", "B2", "A1"}, {"A1: =N | N: =A1", "A1>A1", "", "A1"}, {"A1: =IF(TRUE,1,A1)", "A1>A1", "", "A1"}, {"A1: =g(1) | G: =LAMBDA(x,A1)", "A1>A1", "", "A1"},
		{"A1: =B1 | B1: =A1", "B1>A1 A1>B1", "", "A1 B1"}, {"A1: =B1 | B1: =C1 | C1: =A1 | D1: 4", "B1>A1 C1>B1 A1>C1", "D1", "A1 B1 C1"}, {"A1: =SUM(B1:B9) | B5: =A1", "B5>A1 A1>B5", "", "A1 B5"}, {"A1: =P | B1: =Q | P: =B1 | Q: =A1", "B1>A1 A1>B1", "", "A1 B1"},
		// What needs one of a cycle is in none, and waits for none of it; what a cycle needs is in none.
		{"A1: =B1 | B1: =C1 | C1: =B1", "B1>A1 C1>B1 B1>C1", "A1", "B1 C1"}, {"A1: =B1+D1 | B1: =C1 | C1: =B1 | D1: 4", "B1>A1 D1>A1 C1>B1 B1>C1", "D1 A1", "B1 C1"}, {"A1: =A1+B1 | B1: =C1 | C1: 1", "A1>A1 B1>A1 C1>B1", "C1 B1", "A1"},
		// Behind one that needs one of a cycle, and between two cycles.
		{"A1: =B1 | B1: =C1 | C1: =C1", "B1>A1 C1>B1 C1>C1", "B1 A1", "C1"}, {"A1: =A1 | B1: =A1 | C1: =C1+B1", "A1>A1 A1>B1 B1>C1 C1>C1", "B1", "A1 C1"},
		// A cell on two cycles, two that have none in common, and one of a cycle that also needs others.
		{"A1: =B1+C1 | B1: =A1 | C1: =A1", "B1>A1 C1>A1 A1>B1 A1>C1", "", "A1 B1 C1"}, {"A1: =B1 | B1: =A1 | A2: =B2 | B2: =A2 | C2: =A1+A2", "B1>A1 A1>B1 B2>A2 A2>B2 A1>C2 A2>C2", "C2", "A1 B1 A2 B2"}, {"A1: =B1+C1 | B1: =A1 | C1: =D1 | D1: 1", "B1>A1 C1>A1 A1>B1 D1>C1", "D1 C1", "A1 B1"},
	})
}

// TestOrdersWithAChoice: the least that may come comes, also one that became free only now.
func TestOrdersWithAChoice(t *testing.T) {
	checkGraphs(t, [][4]string{
		{"A1: 1 | B1: 2 | C1: 3", "", "A1 B1 C1", ""}, {"A1: =C1 | B1: 2 | C1: 3", "C1>A1", "B1 C1 A1", ""}, {"A1: =B1 | B1: 2 | C1: 3", "B1>A1", "B1 A1 C1", ""},
		// A1 comes as soon as it may, ahead of D1; in levels it would come behind it.
		{"A1: =B1 | B1: =C1 | C1: 3 | D1: 4", "B1>A1 C1>B1", "C1 B1 A1 D1", ""}, {"A1: =C1+D1 | B1: =D1 | C1: 3 | D1: 4 | E1: =A1", "C1>A1 D1>A1 D1>B1 A1>E1", "C1 D1 A1 B1 E1", ""},
		{"A1: =E1 | B1: =D1 | C1: =B1 | D1: 4 | E1: 5", "E1>A1 D1>B1 B1>C1", "D1 B1 C1 E1 A1", ""}, {"A1: =E1 | B1: =D1 | C1: =A1 | D1: =E1 | E1: 5", "E1>A1 D1>B1 A1>C1 E1>D1", "E1 A1 C1 D1 B1", ""},
		{"A1: =B2 | B1: =A2 | C1: =B1 | A2: 4 | B2: =C1", "B2>A1 A2>B1 B1>C1 C1>B2", "A2 B1 C1 B2 A1", ""},
		{"A1: =SUM(B1:C9) | B1: =C2 | A2: =B1 | C2: 1 | A3: 7", "B1>A1 C2>A1 C2>B1 B1>A2", "C2 B1 A1 A2 A3", ""},
	})
}

// checkChanged has sheets, changes, and what they make of the sheet.
func checkChanged(t *testing.T, changed [][3]string) {
	t.Helper()
	for _, c := range changed {
		s, changes := sheetOf(c[0]), changesOf(c[1])
		was, before := cloned(s), slices.Clone(changes)
		after := impl.WithChanges(s, changes)
		if got := toldSheet(after); got != c[2] {
			t.Errorf("%s with %s\n is   %s\n want %s", c[0], c[1], got, c[2])
		}
		if !impl.GoodSheet(after) {
			t.Errorf("%s with %s: no good sheet", c[0], c[1])
		}
		if !sameSheets(s, was) || !slices.Equal(changes, before) {
			t.Errorf("%s with %s was written into", c[0], c[1])
		}
	}
}

func TestWithChanges(t *testing.T) {
	checkChanged(t, [][3]string{
		{"", "", ""}, {"A1: 1 | N: =A1", "", "A1: 1 | N: =A1"}, {"", "A1: 1", "A1: 1"}, {"N: =1", "A1: 1", "A1: 1 | N: =1"}, {"A1: 1", "A1: ", ""}, {"A1: 1 | N: =A1", "A1: ", "N: =A1"},
		// Put in, changed and taken away; the cells rise.
		{"B2: 1", "A1: 2 | C3: 3 | B1: 4 | A2: 5 | C2: 6 | A3: 7", "A1: 2 | B1: 4 | A2: 5 | B2: 1 | C2: 6 | A3: 7 | C3: 3"}, {"A1: 1 | B1: =A1 | C1: x", "B1: =A1+1", "A1: 1 | B1: =A1+1 | C1: x"}, {"A1: 1 | B1: =A1 | C1: x", "B1: ", "A1: 1 | C1: x"}, {"A1: 1 | B1: =A1 | C1: x", "C1:  | A1:  | B1: ", ""}, {"A1: 1", "GR1000: 9 | GR1: 8 | A1000: 7", "A1: 1 | GR1: 8 | A1000: 7 | GR1000: 9"},
		// One place several times: the last one counts.
		{"A1: 1", "A1: 2 | A1: 3", "A1: 3"}, {"A1: 1", "A1:  | A1: 3", "A1: 3"}, {"A1: 1", "A1: 3 | A1: ", ""}, {"", "B1: 3 | B1:  | B1:  | B1: 4 | B1: 5", "B1: 5"}, {"", "B1: 3 | B1: ", ""}, {"A1: 1", "A1:  | A1: 1", "A1: 1"},
		// An empty text where no cell is; a text that is as it was.
		{"A1: 1", "B1: ", "A1: 1"}, {"", "B1: ", ""}, {"A1: 1", "A1: 1", "A1: 1"}, {"A1: 1", "A1:  | A1: ", ""},
		// Texts as they are: none of them is turned.
		{"A1: 1", "A1: =b1 + 1 | B1:  x | C1: '", "A1: =b1 + 1 | B1:  x | C1: '"},
	})
	s := sheetOf("A1: 1 | B1: 2")
	for _, text := range []string{" ", "~", "=", letters(2000), "=" + strings.Repeat(" ", 1998) + "1", allBytes()} {
		after := impl.WithChanges(s, []impl.Change{{Row: 1, Col: 2, Text: text}})
		if len(after.Cells) != 2 || after.Cells[1] != (impl.Cell{Row: 1, Col: 2, Text: text}) {
			t.Errorf("%q: %v", text, after)
		}
	}
}

// badTexts: texts that no cell may have, but for the empty one.
func badTexts() []string {
	return []string{letters(2001), "=" + strings.Repeat(" ", 1999) + "1", "\x00", "a\x1f", "\x7f", "=1\n", "=\t1", "\xff", "=\u00e9", letters(100000)}
}

// wantNoChanges asks all that changes sheets for the zero answer.
func wantNoChanges(t *testing.T, what any, s impl.Sheet, changes []impl.Change) {
	t.Helper()
	was, before, list := cloned(s), slices.Clone(changes), impl.EvalSheet(s)
	after := impl.WithChanges(s, changes)
	touched := impl.Touched(s, changes)
	shown := impl.Recalc(s, list, changes)
	if len(after.Cells)+len(after.Names)+len(touched)+len(shown) > 0 {
		t.Errorf("%.200v: %v, %v, %v", what, after, touched, shown)
	}
	if !sameSheets(s, was) || !slices.Equal(changes, before) {
		t.Errorf("%.200v was written into", what)
	}
}

func TestChangesThatAreNone(t *testing.T) {
	s := sheetOf("A1: 1 | B1: =A1 | N: =A1")
	good := impl.Change{Row: 1, Col: 1, Text: "2"}
	for _, r := range noPlaces() {
		for _, text := range []string{"", "1", "=A1"} {
			bad := impl.Change{Row: r.Row, Col: r.Col, Text: text}
			wantNoChanges(t, bad, s, []impl.Change{bad})
			wantNoChanges(t, bad, s, []impl.Change{good, bad})
			wantNoChanges(t, bad, s, []impl.Change{bad, good})
		}
	}
	for _, text := range badTexts() {
		bad := impl.Change{Row: 1, Col: 1, Text: text}
		wantNoChanges(t, bad, s, []impl.Change{bad})
		wantNoChanges(t, bad, s, []impl.Change{good, bad, {Row: 2, Col: 1, Text: "3"}})
		wantNoChanges(t, bad, impl.Sheet{}, []impl.Change{bad})
		// On the way it may be any.
		for _, last := range []string{"", "5", "1"} {
			after := impl.WithChanges(s, []impl.Change{bad, {Row: 1, Col: 1, Text: last}})
			list := impl.Recalc(s, impl.EvalSheet(s), []impl.Change{bad, {Row: 1, Col: 1, Text: last}})
			if v := impl.ValueAt(list, 1, 1); !impl.GoodSheet(after) || len(after.Names) != 1 || impl.ShowValue(v) != last {
				t.Errorf("%q, then %q: %v, %v", text, last, after, list)
			}
		}
	}
	for _, s := range append(noSheets(), sheetOf("A1: =B1 | B1: 1 | SUM: =1"), sheetOf("A1: =A1 | B1: 1 | n: =1"), sheetOf("A1: =B1 | B1: 1 | N: 1")) {
		wantNoChanges(t, s, s, nil)
		wantNoChanges(t, s, s, []impl.Change{good})
		if len(impl.Links(s))+len(impl.Order(s))+len(impl.InCycle(s)) > 0 {
			t.Errorf("%.200v: %v, %v, %v", s, impl.Links(s), impl.Order(s), impl.InCycle(s))
		}
		// Changes do not make a good one of it.
		var all []impl.Change
		for _, c := range s.Cells {
			all = append(all, impl.Change{Row: c.Row, Col: c.Col})
		}
		wantNoChanges(t, s, s, all[:min(len(all), 1000)])
	}
	for _, s := range goodSheets() {
		if got := impl.WithChanges(s, nil); !sameSheets(got, s) || len(impl.Touched(s, nil)) > 0 || len(impl.InCycle(s)) != len(s.Cells) {
			t.Errorf("%.200v: %.200v", s, got)
		}
	}
}

func TestMostChanges(t *testing.T) {
	s := sheetOf("A1: 1 | B1: =A1")
	var changes []impl.Change
	for i := range 1000 {
		changes = append(changes, impl.Change{Row: 1, Col: 1, Text: fmt.Sprint(i)})
	}
	if got := toldSheet(impl.WithChanges(s, changes)); got != "A1: 999 | B1: =A1" {
		t.Error(got)
	}
	if got := impl.Touched(s, changes); !slices.Equal(got, []int{0, 1}) {
		t.Error(got)
	}
	if got := listMarks(impl.Recalc(s, impl.EvalSheet(s), changes)); got != "A1=999 B1=999" {
		t.Error(got)
	}
	for _, one := range []impl.Change{{Row: 1, Col: 1, Text: "5"}, {Row: 1, Col: 1, Text: "1"}, {Row: 3, Col: 3}} {
		wantNoChanges(t, "1001 changes", s, append(slices.Clone(changes), one))
	}
	wantNoChanges(t, "5000 changes", s, make([]impl.Change, 5000))
}

// TestMostCells: more on the way than a sheet may have, and at the end.
func TestMostCells(t *testing.T) {
	full := impl.Sheet{Cells: manyCells(300, "1"), Names: manyNames(40, "=A1")}
	more := impl.Change{Row: 16, Col: 1, Text: "=SUM(A1:T15)"}
	wantNoChanges(t, "301 cells", full, []impl.Change{more})
	wantNoChanges(t, "301 cells", full, []impl.Change{more, {Row: 16, Col: 2, Text: "1"}, {Row: 16, Col: 2}})
	for _, changes := range [][]impl.Change{{more, {Row: 3, Col: 3}}, {{Row: 3, Col: 3}, more}, {more, {Row: 16, Col: 2, Text: "1"}, {Row: 3, Col: 3}, {Row: 16, Col: 2}}} {
		after := impl.WithChanges(full, changes)
		if len(after.Cells) != 300 || !slices.Equal(after.Names, full.Names) || !slices.Equal(impl.Touched(full, changes), []int{299}) {
			t.Errorf("%v: %d cells, %v", changes, len(after.Cells), impl.Touched(full, changes))
		}
		list := impl.Recalc(full, impl.EvalSheet(full), changes)
		wantValue(t, "the sum of", 299, impl.ValueAt(list, 16, 1), numVal("299"))
	}
	// All go, and as many others come.
	var changes []impl.Change
	for _, c := range full.Cells {
		changes = append(changes, impl.Change{Row: c.Row + 100, Col: c.Col, Text: "=A1"}, impl.Change{Row: c.Row, Col: c.Col})
	}
	if after := impl.WithChanges(full, changes); len(after.Cells) != 300 || len(impl.Touched(full, changes)) != 300 || len(impl.Recalc(full, nil, changes)) != 300 {
		t.Errorf("%d cells", len(after.Cells))
	}
}

// checkTouched has sheets, changes, and which cells of the sheet that comes out are touched.
func checkTouched(t *testing.T, touched [][3]string) {
	t.Helper()
	for _, c := range touched {
		s, changes := sheetOf(c[0]), changesOf(c[1])
		was, before := cloned(s), slices.Clone(changes)
		if !impl.GoodSheet(s) {
			t.Errorf("%s: no good sheet", c[0])
		}
		if got := placesOf(impl.WithChanges(s, changes), impl.Touched(s, changes)); got != c[2] {
			t.Errorf("%s with %s\n touches %s\n want    %s", c[0], c[1], got, c[2])
		}
		if !sameSheets(s, was) || !slices.Equal(changes, before) {
			t.Errorf("%s with %s was written into", c[0], c[1])
		}
	}
}

func TestTouched(t *testing.T) {
	checkTouched(t, [][3]string{
		{"", "", ""}, {"A1: 1", "", ""}, {"", "A1: 1", "A1"}, {"A1: 1", "A1: 2", "A1"}, {"A1: 1", "A1: ", ""}, {"A1: 1 | B1: 2", "B1: 3", "B1"}, {"A1: 1 | B1: 2", "A1: ", ""},
		// Those that need one, by way of others, and none besides.
		{"A1: =B1 | B1: =C1 | C1: 1 | D1: =E1 | E1: 5", "C1: 2", "A1 B1 C1"}, {"A1: =B1 | B1: =C1 | C1: 1", "B1: =D1", "A1 B1"}, {"A1: =B1 | B1: =C1 | C1: 1", "A1: 7", "A1"}, {"A1: 1 | B1: =SUM(A1:A9) | C1: =B1 | D1: 2", "A1: 3", "A1 B1 C1"}, {"A1: 1 | B1: =SUM(A2:A9)", "A1: 3", "A1"},
		// Needs as they are then, not as they were.
		{"A1: =B1 | B1: 1", "A1: 5 | B1: 2", "A1 B1"}, {"A1: =B1 | B1: 1 | C1: =A1", "B1: 2 | A1: =D1", "A1 B1 C1"}, {"A1: 1 | B1: 2 | C1: =B1", "B1: =A1 | A1: 3", "A1 B1 C1"}, {"A1: =B1 | B1: =C1 | C1: 1 | D1: =A1", "B1: 5", "A1 B1 D1"},
		// A text that is as it was, also by way of others; one that only shows the same.
		{"A1: 1 | B1: =A1", "A1: 1", ""}, {"A1: 1 | B1: =A1", "A1: 2 | A1: 1", ""}, {"A1: 1 | B1: =A1", "A1:  | A1: 1", ""}, {"A1: 1 | B1: =A1", "A1: 1.0", "A1 B1"}, {"A1: 1 | B1: =A1", "B1: = A1", "B1"}, {"A1: 1 | B1: =A1", "C1: 3 | C1: ", ""}, {"A1: 1 | B1: =A1", "C1: ", ""}, {"A1: 1 | B1: =C1", "C1: ", ""},
		// Put in where a formula's area is.
		{"A1: =B1 | C1: =SUM(D1:F9) | C2: =D1", "B1: 1", "A1 B1"}, {"A1: =B1 | C1: =SUM(D1:F9) | C2: =D1", "E5: 1", "C1 E5"}, {"A1: =B1 | C1: =SUM(F9:D1) | C2: =D1 | A2: =C1", "D1: 1", "C1 D1 A2 C2"}, {"A1: =B1 | C1: =SUM(D1:F9)", "G1: 1 | C9: 1 | D10: 2", "G1 C9 D10"},
		// By names.
		{"A1: =N | B1: 1 | N: =B1", "B1: 2", "A1 B1"}, {"A1: =P | B1: 1 | C1: =Q | P: =Q | Q: =B1", "B1: 2", "A1 B1 C1"}, {"A1: =G(1) | B1: 1 | G: =LAMBDA(x,x+B1)", "B1: 2", "A1 B1"}, {"A1: =LET(g,5,g) | B1: 1 | G: =B1", "B1: 2", "A1 B1"}, {"A1: =P | P: =SUM(B1:B9)", "B4: 2", "A1 B4"}, {"A1: =1 | B1: 1 | N: =B1", "B1: 2", "B1"}, {"A1: 1 | B1: 1 | N: =B1", "A1: =n", "A1"},
		// What needs itself, and what needs that.
		{"A1: =B1 | B1: =A1 | C1: =B1 | D1: 1", "A1: 5", "A1 B1 C1"}, {"A1: =B1 | B1: =A1+D1 | C1: =B1 | D1: 1", "D1: 5", "A1 B1 C1 D1"}, {"A1: =B1 | B1: 1 | C1: =A1", "B1: =A1", "A1 B1 C1"}, {"A1: =A1 | B1: 1", "B1: 2", "B1"}, {"A1: =A1 | B1: =A1", "A1: =A1", ""},
		// What is no formula needs nothing, before and after.
		{"A1: =B1+ | B1: 1", "B1: 2", "B1"}, {"A1: 'B1 | B1: 1", "B1: 2", "B1"}, {"A1: =B1+ | B1: 1", "A1: =B1", "A1"},
		// What is laid down is needed by none.
		{"A1: ={1,2} | A2: =B1", "A1: ={3,4}", "A1"}, {"A1: ={1,2} | A2: =B1", "B1: x", "B1 A2"},
	})
}

func TestCellsThatAreGone(t *testing.T) {
	checkTouched(t, [][3]string{
		{"A1: =B1 | B1: 1", "B1: ", "A1"}, {"A1: =B1 | B1: 1 | C1: =A1 | D1: =C1 | E1: 3", "B1: ", "A1 C1 D1"}, {"A1: =SUM(B1:C9) | C5: 1", "C5: ", "A1"}, {"A1: =SUM(C9:B1) | C5: 1", "C5: ", "A1"}, {"A1: =SUM(B1:C4) | C5: 1", "C5: ", ""}, {"A1: =SUM($B$1:$C$9) | C5: 1 | B1: 2 | C9: 3", "C5:  | B1:  | C9: ", "A1"}, {"A1: =B1 | B1: 1", "B1: 2 | B1: ", "A1"},
		// By way of names, of names in names, of such that are only called or mean something else there.
		{"A1: =N | B1: 1 | N: =B1", "B1: ", "A1"}, {"A1: =P | B1: 1 | P: =Q | Q: =SUM(B1:B9)", "B1: ", "A1"}, {"A1: =G(1) | B1: 1 | G: =LAMBDA(x,B1)", "B1: ", "A1"}, {"A1: =LET(g,1,g) | B1: 1 | G: =B1", "B1: ", "A1"}, {"A1: =P | B1: 1 | C1: =A1 | P: =Q | Q: =P+B1", "B1: ", "A1 C1"}, {"A1: =1 | B1: 1 | N: =B1", "B1: ", ""}, {"A1: =N | B1: 1 | N: =B1+", "B1: ", ""}, {"A1: =N | B1: 1 | C1: =N+1 | N: =D1", "B1: ", ""},
		// Put in again it is not gone.
		{"A1: =B1 | B1: 1", "B1:  | B1: 1", ""}, {"A1: =B1 | B1: 1", "B1:  | B1: 2", "A1 B1"}, {"A1: =B1 | B1: 1", "B1: 1 | B1: ", "A1"},
		// What was put in on the way was no cell of the sheet.
		{"A1: =B1", "B1: 1 | B1: ", ""}, {"A1: =B1", "B1: ", ""},
		// A formula that is put in, or that is gone itself.
		{"B1: 1", "B1:  | A1: =B1", "A1"}, {"A1: =B1 | B1: 1", "A1:  | B1: ", ""}, {"A1: =B1 | B1: 1 | C1: =A1", "A1:  | B1: ", "C1"}, {"A1: =B1 | B1: =C1 | C1: 1", "B1: ", "A1"}, {"A1: =B1 | B1: =C1 | C1: 1", "B1:  | C1: 2", "A1 C1"}, {"A1: =B1 | B1: =C1 | C1: 1", "C1: ", "A1 B1"}, {"A1: =B1 | B1: =C1 | C1: 1", "B1:  | C1: ", "A1"}, {"A1: =B1 | B1: 1", "B1:  | A1: 5", "A1"},
		// A cycle whose cell is gone.
		{"A1: =B1 | B1: =A1 | C1: =A1", "B1: ", "A1 C1"}, {"A1: =B1 | B1: =C1 | C1: =A1", "B1: ", "A1 C1"}, {"A1: =A1 | B1: =A1", "A1: ", "B1"}, {"A1: =SUM(A1:B2) | B2: 1", "B2: ", "A1"},
		// Numbers are those of the cells as they are then.
		{"A1: 1 | B1: 2 | C1: 3 | D1: =C1", "A1:  | C1: 4", "C1 D1"}, {"A1: 1 | B1: 2 | C1: 3 | D1: =C1", "A1:  | B1:  | C1: ", "D1"},
	})
	got := impl.Touched(sheetOf("A1: 1 | B1: 2 | C1: 3 | D1: =C1"), changesOf("A1:  | B1:  | C1: "))
	if !slices.Equal(got, []int{0}) {
		t.Errorf("%v", got)
	}
}
