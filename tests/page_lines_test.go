package tests

import (
	"slices"
	"strings"
	"testing"

	"loop.example/g00025/impl"
)

func wantLines(t *testing.T, s impl.Sheet, p impl.Page, want ...string) {
	t.Helper()
	was := cloned(s)
	if got := impl.PageLines(s, p); !slices.Equal(got, want) {
		t.Errorf("%.300s: the lines of %v are\n%s\nwant\n%s", toldSheet(s), p, upTo1000(strings.Join(got, "|\n")), upTo1000(strings.Join(want, "|\n")))
	}
	if !sameSheets(s, was) {
		t.Errorf("%.300s was written into", toldSheet(was))
	}
}

func upTo1000(text string) string { return text[:min(len(text), 1000)] }

func TestLinesOfAPage(t *testing.T) {
	s := sheetOf(ordinarySheet)
	for page, want := range map[string][]string{
		"A1:F4": {
			"item                 price            sold",
			"a long name of an it             12.5  TRUE           1   2",
			"tea                  4.16666666666667  FALSE      30000 x",
			"                     16.6666666666667 #DIV/0!",
		},
		"A1:A1": {"item"}, "B2:B2": {"            12.5"}, "C4:C4": {"#DIV/0!"}, "D1:D4": {"", "", "", ""}, "A4:A4": {""},
		"B3:C4": {"4.16666666666667  FALSE", "16.6666666666667 #DIV/0!"}, "C2:E3": {" TRUE           1", " FALSE      30000"}, "E2:F3": {"    1   2", "30000 x"}, "D2:F2": {"        1   2"},
		// Beyond what is shown: columns of three bytes each.
		"F2:H4": {"  2", "x", ""}, "E1:F6": {"", "    1   2", "30000 x", "", "", ""}, "G1:H2": {"", ""}, "A5:C5": {""}, "GR1000:GR1000": {""}, "A999:GR1000": {"", ""},
	} {
		wantLines(t, s, pageOf(page), want...)
	}
}

func TestLinesOfValues(t *testing.T) {
	for _, c := range []struct {
		sheet string
		page  string
		want  []string
	}{
		// Numbers at the right, bools and errors in the middle, others at the left.
		{"A1: 1 | A2: x | A3: TRUE | A4: #N/A | A5: abcdefgh", "A1:A5", []string{"       1", "x", "  TRUE", "  #N/A", "abcdefgh"}}, {"A1: 1 | A2: x | A3: TRUE | A4: #N/A | A5: abcdefg", "A1:A5", []string{"      1", "x", " TRUE", " #N/A", "abcdefg"}},
		{"A1: 1 | B1: 2 | C1: 3", "A1:C1", []string{"  1   2   3"}}, {"A1: x | B1: y | C1: z", "A1:C1", []string{"x   y   z"}}, {"A1: x | C1: z", "A1:C1", []string{"x       z"}}, {"A1: abc | B1: 123 | C1: xyz", "A1:C1", []string{"abc 123 xyz"}},
		// Just as wide as a column may be, one less and one more.
		{"A1: " + letters(19) + " | B1: y", "A1:B1", []string{letters(19) + " y"}}, {"A1: " + letters(20) + " | B1: y", "A1:B1", []string{letters(20) + " y"}}, {"A1: " + letters(21) + " | B1: y", "A1:B1", []string{letters(20) + " y"}}, {"A1: " + letters(20) + "y", "A1:A1", []string{letters(20)}},
		{"A1: 1.23456789012345E20 | B1: x", "A1:B1", []string{"1.23456789012345E+20 x"}}, {"A1: -1.23456789012345E20 | B1: x", "A1:B1", []string{strings.Repeat("#", 20) + " x"}}, {"A1: -0.00123456789012345 | A2: 0.0000123456789012345 | A3: 1", "A1:A3", []string{"-0.00123456789012345", strings.Repeat("#", 20), spaces(19) + "1"}},
		// No blanks at the end, also of a text that has some, and of a bool.
		{"A1: 'a   | B1: TRUE | B2: abcdefghi | A3: '    | B3: x", "A1:C3", []string{"a     TRUE", "    abcdefghi", "    x"}}, {"A1: '    | A2: =REPT(\" \",30)", "A1:A2", []string{"", ""}}, {"A1: =REPT(\" \",19)&\"x\" | A2: =REPT(\" \",20)&\"x\"", "A1:A2", []string{spaces(19) + "x", ""}}, {"A1: x | C1: '", "A1:C1", []string{"x"}}, {"A1: ' x | B1: ' y z ", "A1:B1", []string{" x   y z"}},
		// What is laid down, and what has no room.
		{"A1: =SEQUENCE(2,3)", "A1:C2", []string{"  1   2   3", "  4   5   6"}}, {"A1: =SEQUENCE(2,3)", "B2:C3", []string{"  5   6", ""}}, {"A1: ={1,2} | B1: x", "A1:C1", []string{"#SPILL! x"}}, {"A1: =A1 | B1: =\"a\"&N | N: =1/4", "A1:B1", []string{"#CYCLE! a0.25"}},
		// Nothing is shown.
		{"", "A1:A1", []string{""}}, {"", "A1:C3", []string{"", "", ""}}, {"N: =1", "B2:GR3", []string{"", ""}},
		// Columns in which nothing is shown ahead of the last one, and such beyond.
		{"D1: x", "A1:D1", []string{spaces(12) + "x"}}, {"D1: x", "B1:F2", []string{spaces(8) + "x", ""}}, {"D1: 12345", "C1:D1", []string{"    12345"}}, {"B1: 1 | A9: 1", "A1:C1", []string{"      1"}},
	} {
		wantLines(t, sheetOf(c.sheet), pageOf(c.page), c.want...)
	}
}

// TestColumnsBeyond has pages that go on beyond the last column in which something is shown: all there is blank, so that
// how wide it is is not to be seen.
func TestColumnsBeyond(t *testing.T) {
	for last := 1; last <= 200; last++ {
		s := impl.Sheet{Cells: []impl.Cell{{Row: 2, Col: last, Text: "abcd"}}}
		wantLines(t, s, impl.Page{From: cell(1, 1), To: cell(3, 200)}, "", spaces(4*(last-1))+"abcd", "")
		wantLines(t, s, impl.Page{From: cell(2, last), To: cell(2, 200)}, "abcd")
		if last < 200 {
			wantLines(t, s, impl.Page{From: cell(2, last+1), To: cell(2, 200)}, "")
		}
	}
}

func TestBoundsOfLines(t *testing.T) {
	all := pageOf("A1:GR1000")
	last := make([]string, 1000)
	last[999] = spaces(199*4) + "x"
	wantLines(t, sheetOf("GR1000: x"), all, last...)
	wantLines(t, sheetOf("GR1000: x"), pageOf("GR1000:GR1000"), "x")
	wantLines(t, sheetOf("GR1000: x"), pageOf("GQ999:GR1000"), "", "    x")
	wantLines(t, impl.Sheet{}, all, make([]string, 1000)...)
	wantLines(t, sheetOf(widestSheet), pageOf("A1:GR2"), strings.Join(slices.Repeat([]string{letters(20)}, 200), " "), "")
}

// TestPagesThatAreNotGood: the first row or column is above the last one, or a ref is none.
func TestPagesThatAreNotGood(t *testing.T) {
	s := sheetOf(ordinarySheet)
	for _, page := range []string{"A2:A1", "B1:A1", "B2:A1", "A2:B1", "B1:A2", "A1000:A999", "GR1:GQ1", "GR1000:A1", "A3:F2", "F1:E4", "$A$2:A1", "$B1:$A1"} {
		wantLines(t, s, pageOf(page))
	}
	for _, a := range noAreas() {
		wantLines(t, s, impl.Page(a))
	}
	for _, row := range noRows {
		wantLines(t, s, impl.Page{From: cell(1, 1), To: cell(row, 1)})
		wantLines(t, s, impl.Page{From: cell(row, 1), To: cell(1000, 200)})
	}
	for _, col := range noCols {
		wantLines(t, s, impl.Page{From: cell(1, 1), To: cell(1, col)})
		wantLines(t, s, impl.Page{From: cell(1, col), To: cell(1000, 200)})
	}
	for _, none := range noSheets() {
		wantLines(t, none, pageOf("A1:A1"))
		wantLines(t, none, pageOf("A1:F4"))
		wantLines(t, none, impl.Page{})
	}
	wantLines(t, impl.Sheet{}, impl.Page{})
}

// TestPagesWithFixes: the cells meant are the same.
func TestPagesWithFixes(t *testing.T) {
	s := sheetOf(ordinarySheet)
	for _, from := range fixings {
		for _, to := range fixings {
			wantLines(t, s, impl.Page{From: fixed(2, 2, from), To: fixed(3, 3, to)}, "            12.5  TRUE", "4.16666666666667  FALSE")
			wantLines(t, s, impl.Page{From: fixed(2, 2, from), To: fixed(2, 2, to)}, "            12.5")
			wantLines(t, s, impl.Page{From: fixed(3, 3, from), To: fixed(2, 2, to)})
		}
	}
}

func wantPrinted(t *testing.T, s impl.Sheet, width, height int, want ...string) {
	t.Helper()
	was := cloned(s)
	all := ""
	for _, line := range want {
		all += line + "\n"
	}
	if got := impl.Printed(s, width, height); got != all {
		t.Errorf("%.300s: printed by %d, %d is\n%s\nwant\n%s", toldSheet(s), width, height, upTo1000(got), upTo1000(all))
	}
	if !sameSheets(s, was) {
		t.Errorf("%.300s was written into", toldSheet(was))
	}
}

func TestPrinted(t *testing.T) {
	s := sheetOf(ordinarySheet)
	wantPrinted(t, s, 200, 100,
		"Page 1 of 1 A1:F4",
		"item                 price            sold",
		"a long name of an it             12.5  TRUE           1   2",
		"tea                  4.16666666666667  FALSE      30000 x",
		"                     16.6666666666667 #DIV/0!")
	wantPrinted(t, s, 45, 3,
		"Page 1 of 4 A1:C3", "item                 price            sold", "a long name of an it             12.5  TRUE", "tea                  4.16666666666667  FALSE",
		"Page 2 of 4 A4:C4", "                     16.6666666666667 #DIV/0!",
		"Page 3 of 4 D1:F3", "", "        1   2", "    30000 x",
		"Page 4 of 4 D4:F4", "")
	for _, c := range []struct {
		sheet         string
		width, height int
		want          []string
	}{
		{"A1: x", 20, 1, []string{"Page 1 of 1 A1:A1", "x"}}, {"A1: x", 200, 100, []string{"Page 1 of 1 A1:A1", "x"}}, {"A1: '", 20, 1, []string{"Page 1 of 1 A1:A1", ""}}, {"B2: 7", 20, 2, []string{"Page 1 of 1 A1:B2", "", "      7"}}, {"B2: 7", 20, 1, []string{"Page 1 of 2 A1:B1", "", "Page 2 of 2 A2:B2", "      7"}},
		{"A1: 1 | A2: x | B1: " + letters(17), 20, 1, []string{"Page 1 of 4 A1:A1", "  1", "Page 2 of 4 A2:A2", "x", "Page 3 of 4 B1:B1", letters(17), "Page 4 of 4 B2:B2", ""}}, {"A1: 1 | A2: x | B1: " + letters(16), 20, 1, []string{"Page 1 of 2 A1:B1", "  1 " + letters(16), "Page 2 of 2 A2:B2", "x"}},
		{"A1: Page 1 of 1 A1:A1", 20, 1, []string{"Page 1 of 1 A1:A1", "Page 1 of 1 A1:A1"}},
		{"", 20, 1, nil}, {"", 200, 100, nil}, {"FOO: =1", 80, 40, nil},
	} {
		wantPrinted(t, sheetOf(c.sheet), c.width, c.height, c.want...)
	}
}

func TestBoundsOfPrinted(t *testing.T) {
	s := sheetOf("A1: x | B3: y")
	for _, width := range []int{20, 200} {
		wantPrinted(t, s, width, 100, "Page 1 of 1 A1:B3", "x", "", "    y")
		wantPrinted(t, s, width, 1, "Page 1 of 3 A1:B1", "x", "Page 2 of 3 A2:B2", "", "Page 3 of 3 A3:B3", "    y")
		for _, height := range noHeights {
			wantPrinted(t, s, width, height)
		}
	}
	for _, width := range noWidths {
		for _, height := range append([]int{1, 2, 100}, noHeights...) {
			wantPrinted(t, s, width, height)
		}
	}
	for _, none := range noSheets() {
		wantPrinted(t, none, 20, 1)
		wantPrinted(t, none, 200, 100)
	}
	// Pages of more than one digit.
	var want []string
	for _, title := range strings.Split("Page 1 of 11 A1:A1,Page 2 of 11 A2:A2,Page 3 of 11 A3:A3,Page 4 of 11 A4:A4,Page 5 of 11 A5:A5,Page 6 of 11 A6:A6,Page 7 of 11 A7:A7,Page 8 of 11 A8:A8,Page 9 of 11 A9:A9,Page 10 of 11 A10:A10,Page 11 of 11 A11:A11", ",") {
		want = append(want, title, "  5")
	}
	wantPrinted(t, sheetOf("A1: =SEQUENCE(11,1,5,0)"), 20, 1, want...)
	far := strings.Split(impl.Printed(sheetOf("GR1000: abcd"), 200, 100), "\n")
	if len(far) != 40+4000+1 || far[0] != "Page 1 of 40 A1:AX100" || far[39*101] != "Page 40 of 40 EU901:GR1000" || far[4039] != spaces(49*4)+"abcd" || far[4040] != "" {
		t.Errorf("%d lines, the first %q", len(far), far[0])
	}
}
