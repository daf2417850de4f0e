package tests

import (
	"math"
	"slices"
	"strconv"
	"strings"
	"testing"

	"loop.example/g00025/impl"
)

// keysOf are told as their columns, with a v behind where they go down.
func keysOf(text string) []impl.SortKey {
	var out []impl.SortKey
	for _, word := range strings.Fields(text) {
		col, err := strconv.Atoi(strings.TrimSuffix(word, "v"))
		if err != nil {
			panic(err)
		}
		out = append(out, impl.SortKey{Col: col, Down: strings.HasSuffix(word, "v")})
	}
	return out
}

// toldRows are the numbers of rows with blanks between.
func toldRows(rows []int) string {
	var out []string
	for _, row := range rows {
		out = append(out, strconv.Itoa(row))
	}
	return strings.Join(out, " ")
}

func wantRows(t *testing.T, what, from any, got []int, want string) {
	t.Helper()
	if told := toldRows(got); told != want {
		t.Errorf("%v of %v: rows %q, want %q", what, from, told, want)
	}
}

// checkSorted has grids, keys, and the rows in order.
func checkSorted(t *testing.T, sorted [][3]string) {
	t.Helper()
	for _, c := range sorted {
		g, keys := gridOf(c[0]), keysOf(c[1])
		wasCells, wasKeys := slices.Clone(g.Cells), slices.Clone(keys)
		wantRows(t, "SortRows by "+c[1], c[0], impl.SortRows(g, keys), c[2])
		if !slices.Equal(g.Cells, wasCells) || !slices.Equal(keys, wasKeys) {
			t.Errorf("%s by %s was written into", c[0], c[1])
		}
	}
}

func TestConstantsOfRules(t *testing.T) {
	got := []int{impl.RuleMeets, impl.RuleTop, impl.RuleTwice, impl.RuleFormula}
	if want := []int{1, 2, 3, 4}; !slices.Equal(got, want) {
		t.Errorf("%v, want %v", got, want)
	}
}

func TestRowsByOneKey(t *testing.T) {
	checkSorted(t, [][3]string{
		{"3;1;2", "1", "1 2 0"}, {"3;1;2", "1v", "0 2 1"}, {"1;2;3", "1", "0 1 2"}, {"1;2;3", "1v", "2 1 0"}, {"-1;0;-10;0.5;1E+20;-1E-7", "1", "2 0 5 1 3 4"}, {"10;9;100", "1", "1 0 2"}, {"'10;'9;'100", "1", "0 2 1"},
		{"b,1;a,2;c,3", "1", "1 0 2"}, {"b,1;a,2;c,3", "2", "0 1 2"}, {"b,1;a,2;c,3", "2v", "2 1 0"}, {"b,1;a,2;c,3", "1v", "2 0 1"},
		// Numbers stand ahead of texts, these ahead of FALSE, that ahead of TRUE; texts as if they had capitals.
		{"TRUE;FALSE;x;5;'5;'", "1", "3 5 4 2 1 0"}, {"TRUE;FALSE;x;5;'5;'", "1v", "0 1 2 4 5 3"}, {"b;A;a;B", "1", "1 2 0 3"}, {"b;A;a;B", "1v", "0 3 1 2"}, {"Z;_;z;a;[", "1", "3 0 2 4 1"}, {"'TRUE;TRUE;'true;true", "1", "0 2 1 3"},
		// Rows that are the same stay as they stand, both ways.
		{"1,9;1,8;1,7", "1", "0 1 2"}, {"1,9;1,8;1,7", "1v", "0 1 2"}, {"2;1;2;1;2;1", "1", "1 3 5 0 2 4"}, {"2;1;2;1;2;1", "1v", "0 2 4 1 3 5"}, {"x;X;x;X", "1v", "0 1 2 3"},
		// One row.
		{"7", "1", "0"}, {"7", "1v", "0"}, {"#N/A", "1", "0"}, {",", "2v", "0"},
	})
}

// TestLastRows: empty cells stand behind all others, errors behind these, up and down.
func TestLastRows(t *testing.T) {
	checkSorted(t, [][3]string{
		{";1;;0", "1", "3 1 0 2"}, {";1;;0", "1v", "1 3 0 2"}, {";-1;FALSE;';", "1", "1 3 2 0 4"}, {";-1;FALSE;';", "1v", "2 3 1 0 4"}, {"#N/A;1;;#N/A;2", "1", "1 4 2 0 3"}, {"#N/A;1;;#N/A;2", "1v", "4 1 2 0 3"},
		// Errors are as if they were the same, both ways.
		{"#VALUE!;#N/A;#DIV/0!;#REF!", "1", "0 1 2 3"}, {"#VALUE!;#N/A;#DIV/0!;#REF!", "1v", "0 1 2 3"}, {"#NUM!;;#N/A;;#NUM!;TRUE", "1", "5 1 3 0 2 4"}, {"#NUM!;;#N/A;;#NUM!;TRUE", "1v", "5 1 3 0 2 4"}, {";;", "1", "0 1 2"}, {";;", "1v", "0 1 2"},
		// An error told as a text is a text; so is an empty text.
		{"'#N/A;#N/A;';;z", "1", "2 0 4 3 1"}, {"'#N/A;#N/A;';;z", "1v", "4 0 2 3 1"},
		// Among those that are the same by a key the next one counts: empty ones, and unlike errors.
		{",2;,1;5,3", "1 2", "2 1 0"}, {",2;,1;5,3", "1v 2", "2 1 0"}, {",2;,1;5,3", "1 2v", "2 0 1"}, {"#N/A,2;#REF!,1;#N/A,0", "1 2", "2 1 0"}, {"#N/A,2;#REF!,1;#N/A,0", "1v 2", "2 1 0"}, {"#N/A,2;#REF!,1;#N/A,0", "1 2v", "0 1 2"}, {"#N/A,;#REF!,#N/A;,#N/A;,1", "1 2", "3 2 0 1"}, {"#N/A,;#REF!,#N/A;,#N/A;,1", "1v 2v", "3 2 0 1"}, {"#N/A,;#REF!,#N/A;,#N/A;,1", "2 1", "3 0 2 1"},
	})
}

func TestRowsBySeveralKeys(t *testing.T) {
	people := "b,2,x;a,2,y;b,1,y;a,1,x;b,2,w"
	checkSorted(t, [][3]string{
		{people, "", "0 1 2 3 4"}, {people, "1", "1 3 0 2 4"}, {people, "1v", "0 2 4 1 3"}, {people, "1 2", "3 1 2 0 4"}, {people, "1 2v", "1 3 0 4 2"}, {people, "1v 2", "2 0 4 3 1"}, {people, "1v 2v", "0 4 2 1 3"}, {people, "2 1", "3 2 1 0 4"}, {people, "1 2 3", "3 1 2 4 0"}, {people, "1v 2v 3v", "0 4 2 1 3"}, {people, "1v 2v 3", "4 0 2 1 3"}, {people, "3 2 1", "4 3 0 2 1"}, {people, "3v 2v 1v", "1 2 0 3 4"}, {people, "3v 1v", "2 1 0 3 4"},
		// A column that comes again decides nothing.
		{people, "1 1v", "1 3 0 2 4"}, {people, "1v 1 2", "2 0 4 3 1"},
		// No key: all rows as they stand.
		{"3;1;2", "", "0 1 2"}, {";#N/A;1", "", "0 1 2"}, {"5", "", "0"},
		// Eight keys, and one more.
		{"1,1,1,1,1,1,1,2;1,1,1,1,1,1,1,1", "1 2 3 4 5 6 7 8", "1 0"}, {"1,1,1,1,1,1,1,2;1,1,1,1,1,1,1,1", "1 2 3 4 5 6 7 8v", "0 1"}, {"1,1,1,1,1,1,1,2;1,1,1,1,1,1,1,1", "1 2 3 4 5 6 7", "0 1"}, {"1,1,1,1,1,1,1,2;1,1,1,1,1,1,1,1", "1 2 3 4 5 6 7 8 1", ""}, {"2;1", "1 1 1 1 1 1 1 1", "1 0"}, {"2;1", "1 1 1 1 1 1 1 1 1", ""}, {"2;1", strings.Repeat("1 ", 100), ""},
	})
}

// TestNoColumns: a column of 1 and the last one are there; the next one, 0 and those below are none.
func TestNoColumns(t *testing.T) {
	g := gridOf("2,5,9;1,6,8")
	for col, want := range map[int]string{1: "1 0", 2: "0 1", 3: "1 0"} {
		wantRows(t, "SortRows", col, impl.SortRows(g, []impl.SortKey{{Col: col}}), want)
		wantRows(t, "FilterRows", col, impl.FilterRows(g, col, "<>", empty), "0 1")
		wantRows(t, "Runs", col, impl.Runs(g, col), "0 1")
	}
	for _, col := range append([]int{0, -1, -2, -3, 4, 5, 6, 7}, farNumbers...) {
		if 1 <= col && col <= 3 {
			continue
		}
		for _, down := range []bool{false, true} {
			bad := impl.SortKey{Col: col, Down: down}
			for _, keys := range [][]impl.SortKey{{bad}, {bad, {Col: 1}}, {{Col: 1}, bad}, {{Col: 1}, {Col: 2}, bad, {Col: 3}}, append(slices.Repeat([]impl.SortKey{{Col: 1}}, 7), bad)} {
				wantRows(t, "SortRows", keys, impl.SortRows(g, keys), "")
			}
		}
		for _, op := range []string{"=", "<>", "<", ">", "<=", ">="} {
			wantRows(t, "FilterRows", col, impl.FilterRows(g, col, op, numVal("2")), "")
		}
		wantRows(t, "Runs", col, impl.Runs(g, col), "")
	}
}

func TestNoRows(t *testing.T) {
	for _, g := range noGrids() {
		sides := []int{g.Rows, g.Cols, len(g.Cells)}
		for _, keys := range [][]impl.SortKey{nil, {}, {{Col: 1}}, {{Col: 1, Down: true}, {Col: 2}}, {{Col: 0}}, {{Col: g.Cols}}} {
			wantRows(t, "SortRows", sides, impl.SortRows(g, keys), "")
		}
		for _, col := range []int{1, 2, 0, g.Cols} {
			wantRows(t, "FilterRows", sides, impl.FilterRows(g, col, "<>", wordsVal("x")), "")
			wantRows(t, "Runs", sides, impl.Runs(g, col), "")
		}
	}
}

// TestMostRows: a grid of as many rows as there may be.
func TestMostRows(t *testing.T) {
	g := impl.Grid{Rows: 2000, Cols: 1}
	for i := range 2000 {
		g.Cells = append(g.Cells, countOf(i*1237%2000/2))
	}
	rows := impl.SortRows(g, keysOf("1"))
	if len(rows) != 2000 || len(impl.Runs(g, 1)) != 2000 || len(impl.FilterRows(g, 1, ">=", numVal("500"))) != 1000 {
		t.Fatalf("%d rows", len(rows))
	}
	for at, row := range rows {
		if g.Cells[row] != countOf(at/2) || at%2 == 1 && rows[at-1] > row {
			t.Fatalf("row %d at %d", row, at)
		}
	}
	for at, row := range impl.SortRows(g, keysOf("1v 1")) {
		if g.Cells[row] != countOf(999-at/2) {
			t.Fatalf("row %d at %d, down", row, at)
		}
	}
}

func TestFilterRows(t *testing.T) {
	numbers, mixed := "1;2;3;2;x;'2;;TRUE;#N/A", "a;A;b;;';1;FALSE;#N/A;#REF!"
	for _, c := range [][4]string{
		{numbers, "=", "2", "1 3"}, {numbers, "<>", "2", "0 2 4 5 6 7"}, {numbers, "<", "2", "0"}, {numbers, ">", "2", "2"}, {numbers, "<=", "2", "0 1 3"}, {numbers, ">=", "2", "1 2 3"},
		{mixed, "=", "a", "0 1"}, {mixed, "<>", "A", "2 3 4 5 6"}, {mixed, "<", "b", "0 1 3 4"}, {mixed, ">", "a", "2"}, {mixed, "<=", "'", "3 4"}, {mixed, ">=", "B", "2"},
		// An empty one is the empty text, in the grid and beside it.
		{mixed, "=", "", "3 4"}, {mixed, "=", "'", "3 4"}, {mixed, "<>", "", "0 1 2 5 6"}, {mixed, ">", "", "0 1 2"}, {";0;FALSE", "=", "0", "1"}, {";0;FALSE", "=", "FALSE", "2"}, {";0;FALSE", "<", "1", "1"},
		{mixed, "=", "FALSE", "6"}, {"TRUE;FALSE;true", ">", "FALSE", "0 2"}, {"TRUE;FALSE;true", "<", "TRUE", "1"},
		// Errors meet the same one, and another one.
		{mixed, "=", "#N/A", "7"}, {mixed, "=", "#REF!", "8"}, {mixed, "=", "#NUM!", ""}, {mixed, "<>", "#N/A", "0 1 2 3 4 5 6 8"}, {mixed, "<>", "#NUM!", "0 1 2 3 4 5 6 7 8"}, {mixed, "<", "#N/A", ""}, {mixed, ">=", "#N/A", ""}, {mixed, "<=", "#N/A", ""}, {mixed, ">", "#N/A", ""},
		// What is none of the six.
		{numbers, "", "2", ""}, {numbers, "==", "2", ""}, {numbers, "!=", "2", ""}, {numbers, "+", "2", ""}, {numbers, "&", "2", ""}, {numbers, "*", "2", ""}, {numbers, "^", "2", ""}, {numbers, " =", "2", ""}, {numbers, "= ", "2", ""}, {numbers, "=<", "2", ""}, {numbers, "><", "2", ""}, {numbers, "<>=", "2", ""}, {numbers, "\xff", "2", ""}, {numbers, "AND", "2", ""},
		// A criterion is not read here.
		{"1;2;>1", "=", ">1", "2"}, {"1;2;>1", "<>", ">1", "0 1"},
		{"5", "=", "5", "0"}, {"5", "<>", "5", ""},
	} {
		g := gridOf(c[0])
		was := slices.Clone(g.Cells)
		by := impl.TypedValue(c[2])
		wantRows(t, "FilterRows by "+c[1]+c[2], c[0], impl.FilterRows(g, 1, c[1], by), c[3])
		if !slices.Equal(g.Cells, was) {
			t.Errorf("%s was written into", c[0])
		}
	}
	g := gridOf("1,a;2,b;1,c")
	wantRows(t, "first column", g, impl.FilterRows(g, 1, "=", numVal("1")), "0 2")
	wantRows(t, "second column", g, impl.FilterRows(g, 2, ">", wordsVal("a")), "1 2")
	for _, by := range noValues() {
		for _, op := range []string{"=", "<>", "<", ">", "<=", ">="} {
			wantRows(t, "FilterRows", by, impl.FilterRows(g, 1, op, by), "")
			wantRows(t, "FilterRows", by, impl.FilterRows(fullGrid(2, 1, errVal("#N/A")), 1, op, by), "")
		}
	}
}

func TestRuns(t *testing.T) {
	for _, c := range [][2]string{
		{"1", "0"}, {"", "0"}, {"#N/A", "0"}, {"1;1;1", "0"}, {"1;2;2;1;1;3", "0 1 3 5"}, {"1;1.0;1E0;0.1E1", "0"}, {"0;-0;1;-1", "0 2 3"}, {"a;A;b;B;a", "0 2 4"}, {"TRUE;true;FALSE;TRUE", "0 2 3"},
		// Compare holds these as the same, but their kinds are unlike.
		{"0;;0", "0 1 2"}, {";';", "0 1 2"}, {";FALSE;", "0 1 2"}, {";;", "0"}, {"';'", "0"}, {"0;;';;FALSE", "0 1 2 3 4"},
		// Kinds that look alike.
		{"1;'1;1", "0 1 2"}, {"TRUE;'TRUE;1;TRUE", "0 1 2 3"}, {"#N/A;'#N/A", "0 1"},
		// The same error, and another one.
		{"#N/A;#N/A;#N/A", "0"}, {"#N/A;#REF!;#REF!;#N/A", "0 1 3"}, {"#N/A;1;#N/A", "0 1 2"}, {";#N/A;;#N/A;#N/A", "0 1 2 3"},
	} {
		g := gridOf(c[0])
		was := slices.Clone(g.Cells)
		wantRows(t, "Runs", c[0], impl.Runs(g, 1), c[1])
		if !slices.Equal(g.Cells, was) {
			t.Errorf("%s was written into", c[0])
		}
	}
	g := gridOf("1,a,x;1,b,x;2,b,x")
	for col, want := range []string{"0 2", "0 1", "0"} {
		wantRows(t, "Runs", col+1, impl.Runs(g, col+1), want)
	}
}

// TestAllowedByList: op and by count for nothing where there is a list.
func TestAllowedByList(t *testing.T) {
	for _, c := range []struct {
		list, v string
		want    bool
	}{
		{"a,b,3", "a", true}, {"a,b,3", "B", true}, {"a,b,3", "3", true}, {"a,b,3", "3.0", true}, {"a,b,3", "c", false}, {"a,b,3", "'3", false}, {"a,b,3", "", false}, {"a,b,3", "TRUE", false}, {"a,b,3", "#N/A", false}, {"x", "X", true}, {"x", "xx", false},
		{"TRUE,#N/A", "true", true}, {"TRUE,#N/A", "FALSE", false}, {"TRUE,#N/A", "1", false}, {"TRUE,#N/A", "#N/A", true}, {"TRUE,#N/A", "#REF!", false}, {"TRUE,#N/A", "'#N/A", false},
		// An empty one is like an empty one alone.
		{"0,',FALSE", "", false}, {"0,',FALSE", "0", true}, {"0,',FALSE", "'", true}, {"0,',FALSE", "FALSE", true}, {",1", "", true}, {",1", "0", false}, {",1", "'", false}, {",1", "FALSE", false}, {",1", "1", true},
	} {
		list, v := gridOf(c.list).Cells, impl.TypedValue(c.v)
		was := slices.Clone(list)
		for _, op := range []string{"", "=", "<>", "<", "no", "\x00"} {
			for _, by := range []impl.Value{empty, v, numVal("5"), errVal("#N/A"), {Kind: 9}} {
				if got := impl.Allowed(v, op, by, list); got != c.want {
					t.Errorf("Allowed(%s, %q, %v, %s) = %v", c.v, op, by, c.list, got)
				}
			}
		}
		if !slices.Equal(list, was) {
			t.Errorf("%s was written into", c.list)
		}
	}
	// A value that is not good, wherever it stands in the list; v itself not good, though it is in the list.
	one := numVal("1")
	for _, bad := range noValues() {
		for _, list := range [][]impl.Value{{bad}, {bad, one}, {one, bad}, {one, one, bad, one}} {
			for _, v := range []impl.Value{one, bad, empty} {
				if impl.Allowed(v, "=", v, list) {
					t.Errorf("Allowed(%v) by a list with %v", v, bad)
				}
			}
		}
		if impl.Allowed(bad, "<>", one, []impl.Value{one, empty, errVal("#N/A")}) {
			t.Errorf("Allowed(%v)", bad)
		}
	}
	long := slices.Repeat([]impl.Value{one}, 5000)
	long[4999] = wordsVal("last")
	if !impl.Allowed(wordsVal("LAST"), "", empty, long) || impl.Allowed(wordsVal("first"), "", empty, long) {
		t.Error("a long list")
	}
}

func TestAllowedByOperator(t *testing.T) {
	for _, c := range []struct {
		v, op, by string
		want      bool
	}{
		{"4", ">", "3", true}, {"3", ">", "3", false}, {"3", ">=", "3", true}, {"2", "<", "3", true}, {"3", "<", "3", false}, {"3", "<=", "3", true}, {"3", "=", "3", true}, {"3", "<>", "3", false}, {"x", "<>", "3", true}, {"x", ">", "3", false}, {"b", ">", "A", true}, {"a", "=", "A", true}, {"TRUE", ">", "FALSE", true},
		{"", "=", "", true}, {"", "=", "'", true}, {"", "=", "0", false}, {"", "<>", "0", true}, {"", "<", "a", true}, {"#N/A", "=", "#N/A", true}, {"#N/A", "<>", "#REF!", true}, {"#N/A", "<>", "1", false}, {"1", "<>", "#N/A", true}, {"1", "=", "#N/A", false},
		{"3", "", "3", false}, {"3", "==", "3", false}, {"3", "+", "3", false}, {"3", "like", "3", false},
	} {
		for _, list := range [][]impl.Value{nil, {}} {
			if got := impl.Allowed(impl.TypedValue(c.v), c.op, impl.TypedValue(c.by), list); got != c.want {
				t.Errorf("Allowed(%s, %s, %s) = %v", c.v, c.op, c.by, got)
			}
		}
	}
	for _, bad := range noValues() {
		for _, op := range []string{"=", "<>", "<", ">", "<=", ">="} {
			if impl.Allowed(bad, op, bad, nil) || impl.Allowed(bad, op, numVal("1"), nil) || impl.Allowed(numVal("1"), op, bad, nil) || impl.Allowed(bad, op, errVal("#N/A"), nil) {
				t.Errorf("Allowed of %v by %s", bad, op)
			}
		}
	}
}

// TestRowsAreNewMemory writes into answers, and asks again.
func TestRowsAreNewMemory(t *testing.T) {
	g := gridOf("2,x;1,x;3,y")
	for range 2 {
		sorted, kept, runs, all := impl.SortRows(g, keysOf("1")), impl.FilterRows(g, 2, "=", wordsVal("x")), impl.Runs(g, 2), impl.SortRows(g, nil)
		wantRows(t, "SortRows", g, sorted, "1 0 2")
		wantRows(t, "FilterRows", g, kept, "0 1")
		wantRows(t, "Runs", g, runs, "0 2")
		wantRows(t, "SortRows by none", g, all, "0 1 2")
		for _, rows := range [][]int{sorted, kept, runs, all} {
			_ = append(rows, math.MaxInt, math.MaxInt)
			clear(rows)
		}
	}
}
