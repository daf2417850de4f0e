package tests

import (
	"math"
	"slices"
	"strconv"
	"strings"
	"testing"

	"loop.example/g00025/impl"
)

// numbersOf reads whole numbers with blanks between.
func numbersOf(text string) []int {
	var out []int
	for _, word := range strings.Fields(text) {
		n, err := strconv.Atoi(word)
		if err != nil {
			panic(err)
		}
		out = append(out, n)
	}
	return out
}

// groupMarks tells groups as their keys, a colon and their rows.
func groupMarks(list []impl.Group) string {
	var out []string
	for _, group := range list {
		keys := gridMarks(impl.Grid{Cols: math.MaxInt, Cells: group.Keys})
		out = append(out, strings.TrimSpace(keys+": "+toldRows(group.Rows)))
	}
	return strings.Join(out, " | ")
}

func wantGroups(t *testing.T, from any, g impl.Grid, cols []int, want string) {
	t.Helper()
	wasCells, wasCols := slices.Clone(g.Cells), slices.Clone(cols)
	if got := groupMarks(impl.GroupRows(g, cols)); got != want {
		t.Errorf("groups of %v by %v:\n%s, want\n%s", from, cols, got, want)
	}
	if !slices.Equal(g.Cells, wasCells) || !slices.Equal(cols, wasCols) {
		t.Errorf("%v by %v was written into", from, cols)
	}
}

// checkGroups has grids, columns, and the groups.
func checkGroups(t *testing.T, grouped [][3]string) {
	t.Helper()
	for _, c := range grouped {
		wantGroups(t, c[0], gridOf(c[0]), numbersOf(c[1]), c[2])
	}
}

func TestConstantsOfPivots(t *testing.T) {
	got := []int{impl.FoldSum, impl.FoldCount, impl.FoldMin, impl.FoldMax, impl.FoldMean}
	if want := []int{1, 2, 3, 4, 5}; !slices.Equal(got, want) {
		t.Errorf("%v, want %v", got, want)
	}
}

func TestGroupsByOneColumn(t *testing.T) {
	checkGroups(t, [][3]string{
		{"n,1;s,2;n,4;s,8", "1", `"n": 0 2 | "s": 1 3`}, {"n,1;s,2;n,4;s,8", "2", "1: 0 | 2: 1 | 4: 2 | 8: 3"}, {"2;1;2;1;2", "1", "1: 1 3 | 2: 0 2 4"}, {"5;5;5", "1", "5: 0 1 2"}, {"3;-1;0.5;10;9", "1", "-1: 1 | 0.5: 2 | 3: 0 | 9: 4 | 10: 3"}, {"7", "1", "7: 0"}, {"a,b,c", "2", `"b": 0`},
		// Numbers that are told unlike are the same.
		{"1;1.0;1E0;0.1E1;-0;0", "1", "0: 4 5 | 1: 0 1 2 3"},
		// Texts in another case are the same; the first row's cells are the keys.
		{"b;A;a;B", "1", `"A": 1 2 | "b": 0 3`}, {"a;A", "1", `"a": 0 1`}, {"A;a", "1", `"A": 0 1`}, {"abC;ABc;abd", "1", `"abC": 0 1 | "abd": 2`}, {"Z;_;z;a;[", "1", `"a": 3 | "Z": 0 2 | "[": 4 | "_": 1`}, {"'10;'9;'100", "1", `"10": 0 | "100": 2 | "9": 1`}, {"a ;a; a", "1", `" a": 2 | "a": 1 | "a ": 0`},
		// Numbers stand ahead of texts, these ahead of FALSE, that ahead of TRUE, empty ones behind, errors last.
		{"#N/A;;TRUE;FALSE;x;5;'5;'", "1", `5: 5 | "": 7 | "5": 6 | "x": 4 | FALSE: 3 | TRUE: 2 | _: 1 | #N/A: 0`}, {"true;TRUE;'true;'TRUE", "1", `"true": 2 3 | TRUE: 0 1`},
		// Compare holds these as the same, but their kinds are unlike.
		{"0;;0;", "1", "0: 0 2 | _: 1 3"}, {";';;'", "1", `"": 1 3 | _: 0 2`}, {";FALSE;FALSE;", "1", "FALSE: 1 2 | _: 0 3"}, {"0;;';;FALSE", "1", `0: 0 | "": 2 | FALSE: 4 | _: 1 3`},
		// Kinds that look alike.
		{"1;'1;1", "1", `1: 0 2 | "1": 1`}, {"TRUE;'TRUE;1;TRUE", "1", `1: 2 | "TRUE": 1 | TRUE: 0 3`}, {"#N/A;'#N/A", "1", `"#N/A": 1 | #N/A: 0`},
	})
}

// TestLastGroups: empty keys stand behind all others, errors behind these, by their texts.
func TestLastGroups(t *testing.T) {
	checkGroups(t, [][3]string{
		{";-1;;TRUE", "1", "-1: 1 | TRUE: 3 | _: 0 2"}, {";;", "1", "_: 0 1 2"}, {"", "1", "_: 0"}, {"#N/A", "1", "#N/A: 0"}, {"#N/A;#N/A;1;#N/A", "1", "1: 2 | #N/A: 0 1 3"},
		{"#VALUE!;#SPILL!;#REF!;#NUM!;#NULL!;#NAME?;#N/A;#DIV/0!;#CYCLE!", "1", "#CYCLE!: 8 | #DIV/0!: 7 | #N/A: 6 | #NAME?: 5 | #NULL!: 4 | #NUM!: 3 | #REF!: 2 | #SPILL!: 1 | #VALUE!: 0"},
		{"#REF!;;#N/A;#REF!;;#N/A;z", "1", `"z": 6 | _: 1 4 | #N/A: 2 5 | #REF!: 0 3`},
		{",#REF!;,#N/A;#N/A,;#N/A,1;1,#N/A;1,", "1 2", "1,_: 5 | 1,#N/A: 4 | _,#N/A: 1 | _,#REF!: 0 | #N/A,1: 3 | #N/A,_: 2"},
		{"#REF!,1;#N/A,2;#REF!,0", "1 2", "#N/A,2: 1 | #REF!,0: 2 | #REF!,1: 0"}, {"#REF!,1;#N/A,2;#REF!,0", "2 1", "0,#REF!: 2 | 1,#REF!: 0 | 2,#N/A: 1"},
	})
}

func TestGroupsBySeveralColumns(t *testing.T) {
	people := "b,2,x;a,2,y;B,1,y;a,1,x;b,2,x"
	checkGroups(t, [][3]string{
		{people, "1 2", `"a",1: 3 | "a",2: 1 | "B",1: 2 | "b",2: 0 4`}, {people, "2 1", `1,"a": 3 | 1,"B": 2 | 2,"a": 1 | 2,"b": 0 4`}, {people, "3 1", `"x","a": 3 | "x","b": 0 4 | "y","a": 1 | "y","B": 2`}, {people, "1 2 3", `"a",1,"x": 3 | "a",2,"y": 1 | "B",1,"y": 2 | "b",2,"x": 0 4`}, {people, "3 2 1", `"x",1,"a": 3 | "x",2,"b": 0 4 | "y",1,"B": 2 | "y",2,"a": 1`},
		// Cells that would be the same if they were written one behind the other.
		{"a,bc;ab,c;a,b", "1 2", `"a","b": 2 | "a","bc": 0 | "ab","c": 1`}, {"1,;,1;,", "1 2", "1,_: 0 | _,1: 1 | _,_: 2"}, {"a,';',a", "1 2", `"","a": 1 | "a","": 0`},
		// A key that is empty is not a key that there is not.
		{",1,,;,1,,", "1 2 3 4", "_,1,_,_: 0 1"},
		// No columns: one group of all.
		{people, "", ": 0 1 2 3 4"}, {"7", "", ": 0"}, {"#N/A;", "", ": 0 1"},
		// Four columns, and one more.
		{"1,1,1,2,5;1,1,1,1,6;1,1,1,2,7", "1 2 3 4", "1,1,1,1: 1 | 1,1,1,2: 0 2"}, {"1,1,1,2,5;1,1,1,1,6;1,1,1,2,7", "5 4 3 2", "5,2,1,1: 0 | 6,1,1,1: 1 | 7,2,1,1: 2"}, {"1,1,1,2,5;1,1,1,1,6;1,1,1,2,7", "1 2 3 4 5", ""}, {"1,1,1,2,5,6", "6 5 4 3 2 1", ""},
		// A column twice.
		{people, "1 1", ""}, {people, "1 2 1", ""}, {people, "2 1 1", ""}, {people, "1 2 3 3", ""}, {people, "3 2 1 3", ""}, {"7", "1 1", ""},
	})
}

func TestNoGroups(t *testing.T) {
	g := gridOf("2,5,9;1,6,8")
	for _, col := range append([]int{0, -1, -2, -3, 4, 5, 6, 7}, farNumbers...) {
		for _, cols := range [][]int{{col}, {col, 1}, {1, col}, {1, 2, col}, {1, col, 2, 3}, {col, col}} {
			wantGroups(t, g, g, cols, "")
		}
	}
	for col, want := range map[int]string{1: "1: 1 | 2: 0", 2: "5: 0 | 6: 1", 3: "8: 1 | 9: 0"} {
		wantGroups(t, g, g, []int{col}, want)
	}
	wantGroups(t, g, g, slices.Repeat([]int{1}, 5000), "")
	for _, g := range noGrids() {
		for _, cols := range [][]int{nil, {}, {1}, {2}, {1, 2}, {0}, {g.Cols}} {
			wantGroups(t, []int{g.Rows, g.Cols, len(g.Cells)}, g, cols, "")
		}
	}
}

// TestMostGroups: grids of as many cells as there may be.
func TestMostGroups(t *testing.T) {
	g := impl.Grid{Rows: 2000, Cols: 1}
	for i := range 2000 {
		g.Cells = append(g.Cells, countOf(i*1237%2000/2))
	}
	list := impl.GroupRows(g, []int{1})
	if len(list) != 1000 {
		t.Fatalf("%d groups", len(list))
	}
	for i, group := range list {
		if len(group.Rows) != 2 || group.Rows[0] >= group.Rows[1] || g.Cells[group.Rows[0]] != countOf(i) || g.Cells[group.Rows[1]] != countOf(i) || group.Keys[0] != countOf(i) {
			t.Fatalf("group %d is %v", i, group)
		}
	}
	if all := impl.GroupRows(g, nil); len(all) != 1 || len(all[0].Rows) != 2000 || len(all[0].Keys) != 0 {
		t.Error("groups by nothing")
	}
	wide := fullGrid(1, 2000, yes)
	wantGroups(t, "a wide grid", wide, []int{2000, 1}, "TRUE,TRUE: 0")
	wantGroups(t, "a wide grid", wide, []int{2001}, "")
}

// TestGroupsAreNewMemory writes into each list of an answer, behind its end too, and asks for the others and for the grid.
func TestGroupsAreNewMemory(t *testing.T) {
	g, cols := gridOf("b,2;a,2;b,1;a,2;b,1;c,3;b,2"), []int{1, 2}
	wasCells := slices.Clone(g.Cells)
	want := `"a",2: 1 3 | "b",1: 2 4 | "b",2: 0 6 | "c",3: 5`
	for at := range 4 {
		list := impl.GroupRows(g, cols)
		one := list[at]
		rows, keys := slices.Clone(one.Rows), slices.Clone(one.Keys)
		_, _ = append(one.Rows, -7, -7, -7), append(one.Keys, no, no, no)
		clear(one.Rows)
		clear(one.Keys)
		list[at] = impl.Group{Keys: keys, Rows: rows}
		if told := groupMarks(list); told != want {
			t.Fatalf("%s when group %d is written into", told, at)
		}
		if !slices.Equal(g.Cells, wasCells) || !slices.Equal(cols, []int{1, 2}) {
			t.Fatal("the grid or the columns are written into")
		}
	}
	list := impl.GroupRows(g, nil)
	clear(list[0].Rows)
	wantGroups(t, "the same grid", g, nil, ": 0 1 2 3 4 5 6")
	// What is written into the arguments afterwards does not come into the answer.
	list = impl.GroupRows(g, cols)
	clear(g.Cells)
	clear(cols)
	if told := groupMarks(list); told != want {
		t.Errorf("%s when the grid is written into", told)
	}
}

// valuesOf reads values with commas between; none of a dash.
func valuesOf(text string) []impl.Value {
	if text == "-" {
		return nil
	}
	return gridOf(text).Cells
}

func wantFold(t *testing.T, from any, list []impl.Value, fold int, want impl.Value) {
	t.Helper()
	was := slices.Clone(list)
	wantValue(t, "fold "+strconv.Itoa(fold), from, impl.FoldValues(list, fold), want)
	if !slices.Equal(list, was) {
		t.Errorf("%v was written into", from)
	}
}

// TestFoldValues has lists, and their sum, count, least, greatest and mean.
func TestFoldValues(t *testing.T) {
	for _, c := range [][6]string{
		{"3,1,2", "6", "3", "1", "3", "2"}, {"5", "5", "1", "5", "5", "5"}, {"-1,-5,2", "-4", "3", "-5", "2", "-1.33333333333333"}, {"0.1,0.2", "0.3", "2", "0.1", "0.2", "0.15"}, {"2,2,2", "6", "3", "2", "2", "2"}, {"1,-1", "0", "2", "-1", "1", "0"}, {"0", "0", "1", "0", "0", "0"},
		// No values, and no numbers.
		{"-", "0", "0", "0", "0", "#DIV/0!"}, {"", "0", "0", "0", "0", "#DIV/0!"}, {",,", "0", "0", "0", "0", "#DIV/0!"}, {"x,TRUE,'", "0", "3", "0", "0", "#DIV/0!"}, {"'5,'7", "0", "2", "0", "0", "#DIV/0!"},
		// Texts, bools and empty values beside numbers do not count but for the count; an empty text is not empty.
		{"3,a,,-1", "2", "3", "-1", "3", "1"}, {"5,,7", "12", "2", "5", "7", "6"}, {",5", "5", "1", "5", "5", "5"}, {"-5,", "-5", "1", "-5", "-5", "-5"}, {"TRUE,5,FALSE,'9,'", "5", "5", "5", "5", "5"}, {"', ,x", "0", "3", "0", "0", "#DIV/0!"},
		// An error is the answer, the first one; it counts as what is not empty.
		{"#N/A", "#N/A", "1", "#N/A", "#N/A", "#N/A"}, {"1,#N/A,2", "#N/A", "3", "#N/A", "#N/A", "#N/A"}, {"#REF!,#N/A,1", "#REF!", "3", "#REF!", "#REF!", "#REF!"}, {"x,,#N/A,#REF!", "#N/A", "3", "#N/A", "#N/A", "#N/A"}, {"1,2,#VALUE!,#DIV/0!", "#VALUE!", "4", "#VALUE!", "#VALUE!", "#VALUE!"}, {",,#CYCLE!", "#CYCLE!", "1", "#CYCLE!", "#CYCLE!", "#CYCLE!"}, {"'#N/A,1", "1", "2", "1", "1", "1"},
		// Each step is put: what is too small beside the sum is lost, and not when it comes first.
		{"1E15,0.4,0.4,0.4", "1E+15", "4", "0.4", "1E+15", "250000000000000"}, {"0.4,0.4,0.4,999999999999999", "1E+15", "4", "0.4", "999999999999999", "250000000000000"}, {"999999999999999,0.4,0.4,0.4", "999999999999999", "4", "0.4", "999999999999999", "250000000000000"}, {"1E20,1,-1E20", "0", "3", "-1E+20", "1E+20", "0"}, {"1E20,-1E20,1", "1", "3", "-1E+20", "1E+20", "0.333333333333333"},
		// Of two that are as near the even one.
		{"999999999999998,0.5", "999999999999998", "2", "0.5", "999999999999998", "499999999999999"}, {"999999999999997,0.5", "999999999999998", "2", "0.5", "999999999999997", "499999999999999"},
		// Means that are not whole.
		{"1,2", "3", "2", "1", "2", "1.5"}, {"1,0,0", "1", "3", "0", "1", "0.333333333333333"}, {"2,0,0", "2", "3", "0", "2", "0.666666666666667"}, {"-2,0,0", "-2", "3", "-2", "0", "-0.666666666666667"}, {"1,0,0,0,0,0,0", "1", "7", "0", "1", "0.142857142857143"},
		// A sum that is too great to be put; an error that is there is told ahead of it, wherever it stands.
		{"999999999999999E300,999999999999999E300", "#NUM!", "2", "9.99999999999999E+314", "9.99999999999999E+314", "#NUM!"}, {"-999999999999999E300,-999999999999999E300,1", "#NUM!", "3", "-9.99999999999999E+314", "1", "#NUM!"}, {"999999999999999E300,999999999999999E300,-999999999999999E300", "#NUM!", "3", "-9.99999999999999E+314", "9.99999999999999E+314", "#NUM!"}, {"999999999999999E300,-999999999999999E300,999999999999999E300", "9.99999999999999E+314", "3", "-9.99999999999999E+314", "9.99999999999999E+314", "3.33333333333333E+314"}, {"999999999999999E300,999999999999999E300,#N/A", "#N/A", "3", "#N/A", "#N/A", "#N/A"},
		// A mean that is too small to be put is 0.
		{"1E-300,0", "1E-300", "2", "0", "1E-300", "0"}, {"-2E-300,-1E-300", "-3E-300", "2", "-2E-300", "-1E-300", "0"}, {"2E-300,2E-300", "4E-300", "2", "2E-300", "2E-300", "2E-300"},
	} {
		for i, want := range c[1:] {
			wantFold(t, c[0], valuesOf(c[0]), i+1, impl.TypedValue(want))
		}
	}
}

// TestNoFold: another fold, more values and values that are not good are told ahead of all else.
func TestNoFold(t *testing.T) {
	lists := []string{"-", "", "1,2", "x", "#N/A", "#REF!,1"}
	for _, fold := range append([]int{0, 6, 7, -1, -2, -5, 256 + 1, 1<<32 + 2}, farNumbers...) {
		for _, list := range lists {
			wantFold(t, list, valuesOf(list), fold, notThis)
		}
	}
	for fold := 1; fold <= 5; fold++ {
		for _, bad := range noValues() {
			for _, list := range lists {
				good := valuesOf(list)
				wantFold(t, list, append(slices.Clone(good), bad), fold, notThis)
				wantFold(t, list, append([]impl.Value{bad}, good...), fold, notThis)
			}
			wantFold(t, "an error ahead", []impl.Value{errVal("#N/A"), bad, errVal("#REF!")}, fold, notThis)
		}
	}
}

func TestMostValues(t *testing.T) {
	for _, c := range []struct {
		v    impl.Value
		want [5]string
	}{
		{numVal("1.5"), [5]string{"3000", "2000", "1.5", "1.5", "1.5"}}, {wordsVal("x"), [5]string{"0", "2000", "0", "0", "#DIV/0!"}}, {empty, [5]string{"0", "0", "0", "0", "#DIV/0!"}}, {errVal("#N/A"), [5]string{"#N/A", "2000", "#N/A", "#N/A", "#N/A"}},
	} {
		for i, want := range c.want {
			most := slices.Repeat([]impl.Value{c.v}, 2000)
			wantFold(t, c.v, most, i+1, impl.TypedValue(want))
			wantFold(t, c.v, append(most, c.v), i+1, notThis)
			wantFold(t, c.v, append(most, empty), i+1, notThis)
			wantFold(t, c.v, append(most, errVal("#REF!")), i+1, notThis)
			wantFold(t, c.v, slices.Repeat(most, 3), i+1, notThis)
			most[1999] = impl.Value{Kind: 9}
			wantFold(t, c.v, most, i+1, notThis)
		}
	}
}

func wantJoined(t *testing.T, from any, a, b impl.Grid, left, right int, want string) {
	t.Helper()
	wasA, wasB := slices.Clone(a.Cells), slices.Clone(b.Cells)
	got := impl.Joined(a, b, left, right)
	if told := gridMarks(got); told != want {
		t.Errorf("%v joined by %d and %d:\n%s, want\n%s", from, left, right, told, want)
	}
	if want == "" {
		wantNoGrid(t, got)
	} else if !impl.GoodGrid(got) || got.Cols != a.Cols+b.Cols-1 {
		t.Errorf("%v joined by %d and %d: %d times %d with %d cells", from, left, right, got.Rows, got.Cols, len(got.Cells))
	}
	if !slices.Equal(a.Cells, wasA) || !slices.Equal(b.Cells, wasB) {
		t.Errorf("%v was written into", from)
	}
}

func TestJoined(t *testing.T) {
	for _, c := range []struct {
		a, b        string
		left, right int
		want        string
	}{
		{"1,a;2,b", "1,x;2,y", 1, 1, `1,"a","x";2,"b","y"`}, {"a,1;b,2", "9,B;8,a;7,b", 1, 2, `"a",1,8;"b",2,9;"b",2,7`}, {"1,a", "x,1,y", 1, 2, `1,"a","x","y"`}, {"a,1", "x,y,1", 2, 3, `"a",1,"x","y"`}, {"a,1", "1,x,y", 2, 1, `"a",1,"x","y"`}, {"1", "1,x", 1, 1, `1,"x"`}, {"1;2;3", "3,x;1,y", 1, 1, `1,"y";3,"x"`}, {"1.0", "1E0,x", 1, 1, `1,"x"`},
		// In a's order, then b's, whatever the values are.
		{"2;1;2", "1,p;2,q;1,r;2,s", 1, 1, `2,"q";2,"s";1,"p";1,"r";2,"q";2,"s"`}, {"b;a;B", "A,1;b,2;a,3", 1, 1, `"b",2;"a",1;"a",3;"B",2`},
		// Bools, and texts in another case: a's cell is told, b's is not.
		{"TRUE;FALSE;true", "FALSE,no;TRUE,yes", 1, 1, `TRUE,"yes";FALSE,"no";TRUE,"yes"`}, {"abC", "ABc,1;aBC,2", 1, 1, `"abC",1;"abC",2`},
		// Empty ones are never the same; an empty text is.
		{";1", ",x;1,y", 1, 1, `1,"y"`}, {"", ",x", 1, 1, ""}, {";", ",x;,y", 1, 1, ""}, {"';", "',x;,y", 1, 1, `"","x"`}, {"", "0,x;',y;FALSE,z", 1, 1, ""}, {"0;';FALSE", ",x", 1, 1, ""}, {"0,", "0,", 1, 1, "0,_,_"},
		// Errors are the same by their texts.
		{"#N/A;#REF!", "#REF!,x;#N/A,y;#NUM!,z", 1, 1, `#N/A,"y";#REF!,"x"`}, {"#N/A", "#REF!,x", 1, 1, ""}, {"#N/A,1", "#N/A,2", 1, 1, "#N/A,1,2"}, {"1,#N/A", "#REF!,1", 1, 2, "1,#N/A,#REF!"},
		// Kinds that are unlike.
		{"1;'1;TRUE;'TRUE", "'1,a;1,b;'TRUE,c;TRUE,d", 1, 1, `1,"b";"1","a";TRUE,"d";"TRUE","c"`}, {"0;';FALSE", "FALSE,x;',y;0,z", 1, 1, `0,"z";"","y";FALSE,"x"`}, {"1", "'1,x;TRUE,y", 1, 1, ""}, {"#N/A", "'#N/A,x", 1, 1, ""}, {"'#N/A", "#N/A,x", 1, 1, ""},
		// No pair at all.
		{"1;2", "3,x;4,y", 1, 1, ""}, {"a", "b,1", 1, 1, ""}, {"a,b", "b,a", 1, 1, ""},
		// A b of one column alone.
		{"1", "1", 1, 1, ""}, {"1,2", "1;2", 1, 1, ""}, {"x,1;y,2", "1;2", 2, 1, ""},
		// Columns that are none.
		{"1,a", "1,x", 0, 1, ""}, {"1,a", "1,x", 3, 1, ""}, {"1,a", "1,x", 1, 0, ""}, {"1,a", "1,x", 1, 3, ""}, {"1,a", "1,x", -1, 1, ""}, {"1,a", "1,x", 1, -1, ""}, {"1", "1,1", 2, 1, ""}, {"1,1", "1,1,1", 1, 4, ""}, {"1,1,1", "1,1", 3, 2, "1,1,1,1"},
	} {
		wantJoined(t, c.a+" and "+c.b, gridOf(c.a), gridOf(c.b), c.left, c.right, c.want)
	}
}

func TestNotJoined(t *testing.T) {
	one, good := numVal("1"), fullGrid(2, 2, numVal("1"))
	for _, col := range append([]int{0, -2, 3, 4}, farNumbers...) {
		wantJoined(t, good, good, good, col, 1, "")
		wantJoined(t, good, good, good, 1, col, "")
		wantJoined(t, good, good, good, col, col, "")
	}
	for _, bad := range noGrids() {
		for _, col := range []int{1, 2, bad.Cols} {
			wantJoined(t, bad, bad, good, col, 1, "")
			wantJoined(t, bad, good, bad, 1, col, "")
			wantJoined(t, bad, bad, bad, col, col, "")
		}
	}
	// As many cells as there may be, and more.
	for _, c := range []struct{ rowsA, colsA, rowsB, colsB, rows int }{
		{40, 1, 25, 2, 1000}, {1, 1, 1000, 2, 1000}, {1000, 1, 1, 2, 1000}, {1, 1000, 1, 1001, 1}, {1, 1, 1, 2000, 1}, {1, 1999, 1, 2, 1}, {2, 500, 1, 501, 2}, {23, 2, 28, 2, 644},
		{23, 2, 29, 2, 0}, {1001, 1, 1, 2, 0}, {11, 1, 91, 2, 0}, {1, 1001, 1, 1001, 0}, {1, 2000, 1, 2, 0}, {1, 2000, 1, 2000, 0}, {2, 1000, 2, 1000, 0}, {2000, 1, 1000, 2, 0}, {1000, 2, 1000, 2, 0},
	} {
		got := impl.Joined(fullGrid(c.rowsA, c.colsA, one), fullGrid(c.rowsB, c.colsB, one), c.colsA, c.colsB)
		if c.rows == 0 {
			wantNoGrid(t, got)
			continue
		}
		if !slices.Equal(got.Cells, slices.Repeat([]impl.Value{one}, c.rows*(c.colsA+c.colsB-1))) || got.Rows != c.rows || got.Cols != c.colsA+c.colsB-1 {
			t.Errorf("%v: %d times %d", c, got.Rows, got.Cols)
		}
	}
	// Great tables of which few rows are in both.
	a, b := impl.Grid{Rows: 2000, Cols: 1}, impl.Grid{Rows: 1000, Cols: 2}
	for i := range 2000 {
		a.Cells = append(a.Cells, countOf(i))
		b.Cells = append(b.Cells, countOf(i/2+1998))
	}
	wantJoined(t, "great tables", a, b, 1, 2, "1998,1998;1999,1999")
}

// TestJoinedIsNewMemory writes into what is handed in and out.
func TestJoinedIsNewMemory(t *testing.T) {
	a, b := gridOf("1,a;2,b"), gridOf("2,x;1,y")
	want := `1,"a","y";2,"b","x"`
	for range 2 {
		wantJoined(t, "a and b", a, b, 1, 1, want)
		got := impl.Joined(a, b, 1, 1)
		_ = append(got.Cells, yes, yes, yes)
		clear(got.Cells)
	}
	got := impl.Joined(a, b, 1, 1)
	clear(a.Cells)
	clear(b.Cells)
	if told := gridMarks(got); told != want {
		t.Errorf("%s when the tables are written into", told)
	}
}
