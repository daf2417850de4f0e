package tests

import (
	"slices"
	"strings"
	"testing"

	"loop.example/g00025/impl"
)

// ordinarySheet has texts, numbers, bools and errors, typed and by formulas, a grid that is laid down, and an empty column.
const ordinarySheet = "A1: item | B1: price | C1: sold | A2: a long name of an item | B2: 12.5 | C2: TRUE | A3: tea | B3: =B2/3 | C3: =B3>5 | B4: =SUM(B2:B3) | C4: =B4/0 | E2: ={1,2;30000,\"x\"} | RATE: =0.2"

// widestSheet shows a text of 20 bytes in each column.
const widestSheet = "A1: =IF(SEQUENCE(1,200),REPT(\"x\",20))"

// noWidths and noHeights are beyond what a page may have.
var noWidths = append([]int{0, 1, 3, 18, 19, 201, 202, 1000}, farNumbers...)

var noHeights = append([]int{0, 101, 102, 1000}, farNumbers...)

// sheetOfWidths has so many rows, and columns with texts of these lengths in the last one.
func sheetOfWidths(rows int, widths ...int) impl.Sheet {
	var s impl.Sheet
	for i, width := range widths {
		s.Cells = append(s.Cells, impl.Cell{Row: rows, Col: i + 1, Text: letters(width)})
	}
	return s
}

func pageOf(text string) impl.Page {
	from, to, _ := strings.Cut(text, ":")
	first, ok := impl.ReadRef(from)
	last, too := impl.ReadRef(to)
	if !ok || !too {
		panic(text + " tells no page")
	}
	return impl.Page{From: first, To: last}
}

func pagesOf(text string) []impl.Page {
	var out []impl.Page
	for _, part := range strings.Fields(text) {
		out = append(out, pageOf(part))
	}
	return out
}

func wantWidths(t *testing.T, s impl.Sheet, want ...int) {
	t.Helper()
	was := cloned(s)
	if got := impl.Widths(s); !slices.Equal(got, want) {
		t.Errorf("%.300s: the widths are %v, want %v", toldSheet(s), got, want)
	}
	if !sameSheets(s, was) {
		t.Errorf("%.300s was written into", toldSheet(was))
	}
}

func wantPages(t *testing.T, s impl.Sheet, width, height int, want string) {
	t.Helper()
	was := cloned(s)
	if got := impl.Pages(s, width, height); !slices.Equal(got, pagesOf(want)) {
		t.Errorf("%.300s: the pages of %d, %d are %.500v, want %.500s", toldSheet(s), width, height, got, want)
	}
	if !sameSheets(s, was) {
		t.Errorf("%.300s was written into", toldSheet(was))
	}
}

func TestWidths(t *testing.T) {
	for _, c := range []struct {
		sheet string
		want  []int
	}{
		{ordinarySheet, []int{20, 16, 7, 3, 5, 3}},
		{"", nil}, {"FOO: =\"abcdef\" | X: =A1", nil},
		// The longest one counts, in whatever row it is.
		{"A1: abcdef | A2: ab | A3: abcd", []int{6}}, {"A1: ab | A2: abcdef | A3: abcd", []int{6}}, {"A1: ab | A2: abcd | A1000: abcdef", []int{6}}, {"A1: abcde | B1: abcd | C1: abcdef", []int{5, 4, 6}},
		// Columns in which nothing is shown, ahead of the last one.
		{"B1: abcd", []int{3, 4}}, {"A1: abcde | D5: abcd", []int{5, 3, 3, 4}}, {"A9: a | C2: abcdefg", []int{3, 3, 7}}, {"E1: x", []int{3, 3, 3, 3, 3}},
		// A text that is empty, or of blanks, is something that is shown.
		{"B1: '", []int{3, 3}}, {"A1: =\"\"", []int{3}}, {"A1: '     | B2: ' a  b ", []int{4, 6}},
		// What is shown counts, not what is typed.
		{"A1: 1.50000000 | B1: 007000000 | C1: 1e3 | D1: 'abcd | E1: true", []int{3, 7, 4, 4, 4}}, {"A1: =1+1+1+1+1 | B1: =Z9 | C1: =\"ab\"&\"cdef\" | D1: =REPT(\"x\",12)", []int{3, 3, 6, 12}},
		{"A1: TRUE | B1: FALSE | C1: #N/A | D1: =1/0 | E1: =nosuch | F1: =F1 | G1: #NULL!", []int{4, 5, 4, 7, 6, 7, 6}}, {"A1: =1/3 | B1: =-1/3 | C1: 1E20 | D1: -1 | E1: -123", []int{17, 18, 5, 3, 4}},
		// Numbers of 20, 21 and 22 bytes.
		{"A1: 1.23456789012345E+20 | B1: -1.23456789012345E+20 | C1: -1.23456789012345E+100 | D1: 0.000123456789012345 | E1: 0.0000123456789012345", []int{20, 20, 20, 20, 20}}, {"A1: -0.00123456789012345 | B1: 0.00123456789012345", []int{20, 19}},
		// What is laid down.
		{"A1: ={1,22222;333333,4}", []int{6, 5}}, {"B2: =SEQUENCE(1,3,999,1)", []int{3, 3, 4, 4}}, {"A1: =HSTACK(1,\"\",Z9)", []int{3, 3, 3}}, {"A1: ={1,22222} | B1: xx", []int{7, 3}}, {"A1: =VSTACK(1,\"abcdef\")", []int{6}},
	} {
		wantWidths(t, sheetOf(c.sheet), c.want...)
	}
}

func TestBoundsOfWidths(t *testing.T) {
	for length, want := range map[int]int{1: 3, 2: 3, 3: 3, 4: 4, 5: 5, 18: 18, 19: 19, 20: 20, 21: 20, 22: 20, 100: 20, 1000: 20, 1001: 7} {
		wantWidths(t, sheetOfWidths(1, length), want)
		wantWidths(t, sheetOfWidths(7, length, 5), want, 5)
		wantWidths(t, sheetOfWidths(1000, 5, 1, length), 5, 3, want)
	}
	wantWidths(t, sheetOf("GR1000: abcde"), append(slices.Repeat([]int{3}, 199), 5)...)
	wantWidths(t, sheetOf("GR1000: '"), slices.Repeat([]int{3}, 200)...)
	wantWidths(t, sheetOf("A1: =SEQUENCE(1,200,10000,1)"), slices.Repeat([]int{5}, 200)...)
	wantWidths(t, sheetOf("A1: =SEQUENCE(1000,2,9990,1)"), 5, 5)
	for _, s := range noSheets() {
		wantWidths(t, s)
	}
}

func TestPages(t *testing.T) {
	for _, c := range []struct {
		sheet         string
		width, height int
		want          string
	}{
		{ordinarySheet, 200, 100, "A1:F4"}, {ordinarySheet, 45, 3, "A1:C3 A4:C4 D1:F3 D4:F4"}, {ordinarySheet, 44, 4, "A1:B4 C1:F4"}, {ordinarySheet, 20, 2, "A1:A2 A3:A4 B1:B2 B3:B4 C1:E2 C3:E4 F1:F2 F3:F4"},
		{"A1: x", 20, 1, "A1:A1"}, {"A1: x", 200, 100, "A1:A1"}, {"A2: x", 20, 1, "A1:A1 A2:A2"}, {"B2: '", 20, 1, "A1:B1 A2:B2"},
		// From the first row and column on, to the last ones in which something is shown, be it in another cell.
		{"C3: x", 50, 50, "A1:C3"}, {"C1: x | A3: y", 50, 50, "A1:C3"}, {"F1: x | A3: y", 20, 2, "A1:E2 A3:E3 F1:F2 F3:F3"}, {"A1: =SEQUENCE(3,6)", 20, 2, "A1:E2 A3:E3 F1:F2 F3:F3"},
		// Nothing is shown.
		{"", 20, 1, ""}, {"", 200, 100, ""}, {"FOO: =1", 80, 40, ""},
	} {
		wantPages(t, sheetOf(c.sheet), c.width, c.height, c.want)
	}
}

func TestColumnsOfPages(t *testing.T) {
	wide := slices.Repeat([]int{20}, 9)
	for _, c := range []struct {
		width  int
		widths []int
		want   string
	}{
		// Just the width, one less and one more, the blank between with them.
		{20, []int{10, 9}, "A1:B1"}, {20, []int{10, 8}, "A1:B1"}, {20, []int{10, 10}, "A1:A1 B1:B1"}, {30, []int{10, 9, 9}, "A1:C1"}, {30, []int{10, 9, 8}, "A1:C1"}, {30, []int{10, 9, 10}, "A1:B1 C1:C1"}, {23, []int{7, 7, 7}, "A1:C1"}, {24, []int{7, 7, 7}, "A1:C1"}, {22, []int{7, 7, 7}, "A1:B1 C1:C1"}, {20, []int{16, 3}, "A1:B1"}, {20, []int{17, 3}, "A1:A1 B1:B1"}, {20, []int{15, 3}, "A1:B1"}, {20, []int{15, 4}, "A1:B1"}, {20, []int{15, 5}, "A1:A1 B1:B1"},
		// Narrow columns take three, wide ones twenty.
		{20, []int{1, 1, 1, 1, 1}, "A1:E1"}, {20, []int{1, 1, 1, 1, 4}, "A1:E1"}, {20, []int{1, 1, 1, 1, 5}, "A1:D1 E1:E1"}, {22, []int{1, 1, 1, 1, 1, 1}, "A1:E1 F1:F1"}, {23, []int{1, 1, 1, 1, 1, 1}, "A1:F1"}, {41, []int{100, 50}, "A1:B1"}, {40, []int{100, 50}, "A1:A1 B1:B1"},
		// A first column alone, and others alone.
		{20, []int{20}, "A1:A1"}, {20, []int{30}, "A1:A1"}, {20, []int{19}, "A1:A1"}, {20, []int{20, 3}, "A1:A1 B1:B1"}, {23, []int{20, 3}, "A1:A1 B1:B1"}, {24, []int{20, 3}, "A1:B1"}, {20, []int{3, 20}, "A1:A1 B1:B1"}, {20, []int{3, 20, 3}, "A1:A1 B1:B1 C1:C1"}, {20, []int{20, 20, 20}, "A1:A1 B1:B1 C1:C1"}, {200, []int{20}, "A1:A1"},
		// The first column of a later page has no blank ahead, either.
		{20, []int{15, 10, 9}, "A1:A1 B1:C1"}, {20, []int{15, 10, 10}, "A1:A1 B1:B1 C1:C1"}, {20, []int{10, 9, 10, 9}, "A1:B1 C1:D1"}, {20, []int{10, 9, 3, 10, 5, 3}, "A1:B1 C1:E1 F1:F1"}, {20, []int{10, 9, 3, 10, 4, 3}, "A1:B1 C1:E1 F1:F1"}, {21, []int{10, 10, 5, 15, 1, 1}, "A1:B1 C1:D1 E1:F1"},
		// A column that has no room does not let a later one ahead.
		{20, []int{10, 10, 3}, "A1:A1 B1:C1"}, {20, []int{12, 9, 3, 3}, "A1:A1 B1:D1"},
		{200, append(slices.Clone(wide), 11), "A1:J1"}, {200, append(slices.Clone(wide), 10), "A1:J1"}, {200, append(slices.Clone(wide), 12), "A1:I1 J1:J1"}, {199, append(slices.Clone(wide), 11), "A1:I1 J1:J1"}, {200, slices.Repeat([]int{3}, 50), "A1:AX1"}, {198, slices.Repeat([]int{3}, 50), "A1:AW1 AX1:AX1"}, {199, slices.Repeat([]int{3}, 50), "A1:AX1"},
	} {
		wantPages(t, sheetOfWidths(1, c.widths...), c.width, 1, c.want)
		wantPages(t, sheetOfWidths(1, c.widths...), c.width, 100, c.want)
	}
	// Columns in which nothing is shown go onto pages, too.
	wantPages(t, sheetOf("G1: x"), 20, 1, "A1:E1 F1:G1")
	wantPages(t, sheetOf("GR1: x"), 200, 1, "A1:AX1 AY1:CV1 CW1:ET1 EU1:GR1")
}

func TestRowsOfPages(t *testing.T) {
	for _, c := range []struct {
		rows, height int
		want         string
	}{
		{1, 1, "A1:A1"}, {2, 1, "A1:A1 A2:A2"}, {3, 1, "A1:A1 A2:A2 A3:A3"}, {1, 2, "A1:A1"}, {1, 100, "A1:A1"},
		// Just the height, one less and one more, and twice the height.
		{2, 3, "A1:A2"}, {3, 3, "A1:A3"}, {4, 3, "A1:A3 A4:A4"}, {5, 3, "A1:A3 A4:A5"}, {6, 3, "A1:A3 A4:A6"}, {7, 3, "A1:A3 A4:A6 A7:A7"}, {1, 3, "A1:A1"},
		{49, 50, "A1:A49"}, {50, 50, "A1:A50"}, {51, 50, "A1:A50 A51:A51"}, {99, 100, "A1:A99"}, {100, 100, "A1:A100"}, {101, 100, "A1:A100 A101:A101"}, {100, 99, "A1:A99 A100:A100"}, {200, 100, "A1:A100 A101:A200"}, {201, 100, "A1:A100 A101:A200 A201:A201"},
		{1000, 100, "A1:A100 A101:A200 A201:A300 A301:A400 A401:A500 A501:A600 A601:A700 A701:A800 A801:A900 A901:A1000"}, {999, 100, "A1:A100 A101:A200 A201:A300 A301:A400 A401:A500 A501:A600 A601:A700 A701:A800 A801:A900 A901:A999"}, {1000, 99, "A1:A99 A100:A198 A199:A297 A298:A396 A397:A495 A496:A594 A595:A693 A694:A792 A793:A891 A892:A990 A991:A1000"},
	} {
		wantPages(t, sheetOfWidths(c.rows, 5), 20, c.height, c.want)
		wantPages(t, sheetOfWidths(c.rows, 5), 200, c.height, c.want)
	}
}

// TestOrderOfPages: those below each other come first.
func TestOrderOfPages(t *testing.T) {
	s := sheetOfWidths(5, 20, 10, 9, 15)
	wantPages(t, s, 20, 2, "A1:A2 A3:A4 A5:A5 B1:C2 B3:C4 B5:C5 D1:D2 D3:D4 D5:D5")
	wantPages(t, s, 41, 3, "A1:C3 A4:C5 D1:D3 D4:D5")
	wantPages(t, s, 41, 5, "A1:C5 D1:D5")
	wantPages(t, s, 57, 4, "A1:D4 A5:D5")
	wantPages(t, s, 56, 4, "A1:C4 A5:C5 D1:D4 D5:D5")
	wantPages(t, s, 57, 1, "A1:D1 A2:D2 A3:D3 A4:D4 A5:D5")
}

func TestBoundsOfPages(t *testing.T) {
	s := sheetOf("A1: x | C2: y")
	for _, width := range []int{20, 21, 100, 199, 200} {
		for _, height := range []int{2, 3, 99, 100} {
			wantPages(t, s, width, height, "A1:C2")
		}
		wantPages(t, s, width, 1, "A1:C1 A2:C2")
		for _, height := range noHeights {
			wantPages(t, s, width, height, "")
		}
	}
	for _, width := range noWidths {
		for _, height := range append([]int{1, 2, 100}, noHeights...) {
			wantPages(t, s, width, height, "")
		}
	}
	for _, none := range noSheets() {
		wantPages(t, none, 20, 1, "")
		wantPages(t, none, 200, 100, "")
	}
	most := impl.Pages(sheetOf(widestSheet+" | A1000: x"), 20, 1)
	if len(most) != 200000 || most[0] != pageOf("A1:A1") || most[999] != pageOf("A1000:A1000") || most[1000] != pageOf("B1:B1") || most[199999] != pageOf("GR1000:GR1000") {
		t.Errorf("%d pages", len(most))
	}
}

// TestPagesAreNewMemory writes into answers, and asks again.
func TestPagesAreNewMemory(t *testing.T) {
	s := sheetOf(ordinarySheet)
	widths, pages, lines := impl.Widths(s), impl.Pages(s, 20, 2), impl.PageLines(s, pageOf("A1:G5"))
	wantW, wantP, wantL := slices.Clone(widths), slices.Clone(pages), slices.Clone(lines)
	printed := impl.Printed(s, 20, 2)
	clear(widths)
	clear(pages)
	clear(lines)
	if got := impl.Widths(s); !slices.Equal(got, wantW) {
		t.Errorf("%v, want %v", got, wantW)
	}
	if got := impl.Pages(s, 20, 2); !slices.Equal(got, wantP) {
		t.Errorf("%v, want %v", got, wantP)
	}
	if got := impl.PageLines(s, pageOf("A1:G5")); !slices.Equal(got, wantL) {
		t.Errorf("%q, want %q", got, wantL)
	}
	if got := impl.Printed(s, 20, 2); got != printed {
		t.Errorf("%q, want %q", got, printed)
	}
	if !sameSheets(s, sheetOf(ordinarySheet)) {
		t.Error("the sheet was written into")
	}
}
