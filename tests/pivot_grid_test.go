package tests

import (
	"slices"
	"strings"
	"testing"

	"loop.example/g00025/impl"
)

var foldNames = []string{"", "SUM", "COUNT", "MIN", "MAX", "MEAN"}

// pivotOf reads columns of rows, columns beside, measures as their names, and a + for totals, with slashes between.
func pivotOf(text string) impl.Pivot {
	parts := strings.Split(text, "/")
	p := impl.Pivot{Rows: numbersOf(parts[0]), Cols: numbersOf(parts[1]), Totals: parts[3] == "+"}
	for _, measure := range strings.Split(parts[2], ",") {
		if name, col, is := strings.Cut(measure, " "); is {
			p.Measures = append(p.Measures, impl.Measure{Col: numbersOf(col)[0], Fold: slices.Index(foldNames, name)})
		}
	}
	return p
}

func clonedPivot(p impl.Pivot) impl.Pivot {
	return impl.Pivot{Rows: slices.Clone(p.Rows), Cols: slices.Clone(p.Cols), Measures: slices.Clone(p.Measures), Totals: p.Totals}
}

func samePivots(p, q impl.Pivot) bool {
	return slices.Equal(p.Rows, q.Rows) && slices.Equal(p.Cols, q.Cols) && slices.Equal(p.Measures, q.Measures) && p.Totals == q.Totals
}

// wantPivot has an empty text where there is no grid; good is whether the pivot is.
func wantPivot(t *testing.T, from any, g impl.Grid, p impl.Pivot, good bool, want string) {
	t.Helper()
	wasCells, wasPivot := slices.Clone(g.Cells), clonedPivot(p)
	if got := impl.GoodPivot(g, p); got != good {
		t.Errorf("GoodPivot(%v, %v) = %v", from, p, got)
	}
	got := impl.PivotGrid(g, p)
	if told := gridMarks(got); told != want {
		t.Errorf("pivot %v of %v:\n%s, want\n%s", p, from, strings.ReplaceAll(told, ";", "\n"), strings.ReplaceAll(want, ";", "\n"))
	}
	if want == "" {
		wantNoGrid(t, got)
	} else if !impl.GoodGrid(got) {
		t.Errorf("pivot %v of %v: %d times %d with %d cells", p, from, got.Rows, got.Cols, len(got.Cells))
	}
	if !slices.Equal(g.Cells, wasCells) || !samePivots(p, wasPivot) {
		t.Errorf("%v of %v was written into", p, from)
	}
}

// checkPivots has grids, pivots, and what comes of them; texts are told without `"`.
func checkPivots(t *testing.T, pivots [][3]string) {
	t.Helper()
	for _, c := range pivots {
		g, p := gridOf(c[0]), pivotOf(c[1])
		wantPivot(t, c[0], g, p, true, gridMarks(gridOf(strings.ReplaceAll(c[2], "|", ";"))))
	}
}

// sales are places, kinds, years, and two numbers.
const sales = "n,x,1,10,1;s,x,2,20,2;N,y,1,40,3;s,x,1,80,5"

func TestPivotWithoutCols(t *testing.T) {
	checkPivots(t, [][3]string{
		{sales, "1//SUM 4/", ",SUM 4|n,50|s,100"}, {sales, "2//SUM 4/", ",SUM 4|x,110|y,40"}, {sales, "1//COUNT 4/", ",COUNT 4|n,2|s,2"}, {sales, "1//MIN 4/", ",MIN 4|n,10|s,20"}, {sales, "1//MAX 4/", ",MAX 4|n,40|s,80"}, {sales, "1//MEAN 4/", ",MEAN 4|n,25|s,50"},
		{sales, "1 2//SUM 4/", ",,SUM 4|n,x,10|N,y,40|s,x,100"}, {sales, "2 1//SUM 4/", ",,SUM 4|x,n,10|x,s,100|y,N,40"}, {sales, "3 2 1//SUM 5/", ",,,SUM 5|1,x,n,1|1,x,s,5|1,y,N,3|2,x,s,2"},
		{sales, "1//SUM 4,MEAN 5/", ",SUM 4,MEAN 5|n,50,2|s,100,3.5"}, {sales, "1//MIN 5,MAX 5,SUM 5,COUNT 5/", ",MIN 5,MAX 5,SUM 5,COUNT 5|n,1,3,4,2|s,2,5,7,2"},
		// The same measure again, and measures of columns that are grouped by.
		{sales, "1//SUM 4,SUM 4/", ",SUM 4,SUM 4|n,50,50|s,100,100"}, {sales, "1//COUNT 1,SUM 1/", ",COUNT 1,SUM 1|n,2,0|s,2,0"}, {sales, "3//SUM 3/", ",SUM 3|1,3|2,2"},
		// Totals: a row, no column.
		{sales, "1//SUM 4/+", ",SUM 4|n,50|s,100|Total,150"}, {sales, "1 2//SUM 4/+", ",,SUM 4|n,x,10|N,y,40|s,x,100|Total,,150"}, {sales, "1 2 3//COUNT 4/+", ",,,COUNT 4|n,x,1,1|N,y,1,1|s,x,1,1|s,x,2,1|Total,,,4"}, {sales, "1//MIN 4,MAX 4,MEAN 4,COUNT 4/+", ",MIN 4,MAX 4,MEAN 4,COUNT 4|n,10,40,25,2|s,20,80,50,2|Total,10,80,37.5,4"},
		// Grids of one row, and of one column.
		{"5", "1//SUM 1/", ",SUM 1|5,5"}, {"5", "1//SUM 1/+", ",SUM 1|5,5|Total,5"}, {"a,5", "1//SUM 2/+", ",SUM 2|a,5|Total,5"}, {"2;1;2", "1//COUNT 1,SUM 1/", ",COUNT 1,SUM 1|1,1,1|2,2,4"},
	})
}

func TestPivotWithCols(t *testing.T) {
	checkPivots(t, [][3]string{
		// Where no row is in both the cell is empty, whatever the fold is.
		{sales, "1/2/SUM 4/", ",x,y|,SUM 4,SUM 4|n,10,40|s,100,"}, {sales, "1/2/COUNT 4/", ",x,y|,COUNT 4,COUNT 4|n,1,1|s,2,"}, {sales, "1/2/MIN 4/", ",x,y|,MIN 4,MIN 4|n,10,40|s,20,"}, {sales, "1/2/MAX 4/", ",x,y|,MAX 4,MAX 4|n,10,40|s,80,"}, {sales, "1/2/MEAN 4/", ",x,y|,MEAN 4,MEAN 4|n,10,40|s,50,"},
		{sales, "2/1/SUM 4/", ",n,s|,SUM 4,SUM 4|x,10,100|y,40,"}, {sales, "1/2 3/SUM 4/", ",x,x,y|,1,2,1|,SUM 4,SUM 4,SUM 4|n,10,,40|s,80,20,"}, {sales, "1/3 2/SUM 4/", ",1,1,2|,x,y,x|,SUM 4,SUM 4,SUM 4|n,10,40,|s,80,,20"}, {sales, "4/1 2 3/SUM 5/", ",n,N,s,s|,x,y,x,x|,1,1,1,2|,SUM 5,SUM 5,SUM 5,SUM 5|10,1,,,|20,,,,2|40,,3,,|80,,,5,"}, {sales, "1 2/3/SUM 4/", ",,1,2|,,SUM 4,SUM 4|n,x,10,|N,y,40,|s,x,80,20"}, {sales, "1 2 4/3/SUM 5/", ",,,1,2|,,,SUM 5,SUM 5|n,x,10,1,|N,y,40,3,|s,x,20,,2|s,x,80,5,"},
		// Several measures: each group beside has all of them, and its key above each.
		{sales, "1/2/SUM 4,COUNT 5/", ",x,x,y,y|,SUM 4,COUNT 5,SUM 4,COUNT 5|n,10,1,40,1|s,100,2,,"}, {sales, "1/2/SUM 5,COUNT 5,MIN 5,MEAN 5/", ",x,x,x,x,y,y,y,y|,SUM 5,COUNT 5,MIN 5,MEAN 5,SUM 5,COUNT 5,MIN 5,MEAN 5|n,1,1,1,1,3,1,3,3|s,7,2,2,3.5,,,,"},
		// Totals: a last group beside, and a last one below.
		{sales, "1/2/SUM 4/+", ",x,y,Total|,SUM 4,SUM 4,SUM 4|n,10,40,50|s,100,,100|Total,110,40,150"}, {sales, "1/2/MEAN 4/+", ",x,y,Total|,MEAN 4,MEAN 4,MEAN 4|n,10,40,25|s,50,,50|Total,36.6666666666667,40,37.5"}, {sales, "1/2/MIN 5,MAX 5/+", ",x,x,y,y,Total,Total|,MIN 5,MAX 5,MIN 5,MAX 5,MIN 5,MAX 5|n,1,1,3,3,1,3|s,2,5,,,2,5|Total,1,5,3,3,1,5"},
		{sales, "1/2 3/SUM 4/+", ",x,x,y,Total|,1,2,1,|,SUM 4,SUM 4,SUM 4,SUM 4|n,10,,40,50|s,80,20,,100|Total,90,20,40,150"}, {sales, "1 2/3/COUNT 4/+", ",,1,2,Total|,,COUNT 4,COUNT 4,COUNT 4|n,x,1,,1|N,y,1,,1|s,x,1,1,2|Total,,3,1,4"}, {sales, "4/1 2 3/SUM 5,COUNT 1/+", ",n,n,N,N,s,s,s,s,Total,Total|,x,x,y,y,x,x,x,x,,|,1,1,1,1,1,1,2,2,,|,SUM 5,COUNT 1,SUM 5,COUNT 1,SUM 5,COUNT 1,SUM 5,COUNT 1,SUM 5,COUNT 1|10,1,1,,,,,,,1,1|20,,,,,,,2,1,2,1|40,,,3,1,,,,,3,1|80,,,,,5,1,,,5,1|Total,1,1,3,1,5,1,2,1,11,4"},
		// One row alone.
		{"a,b,5", "1/2/SUM 3/", ",b|,SUM 3|a,5"}, {"a,b,5", "1/2/SUM 3/+", ",b,Total|,SUM 3,SUM 3|a,5,5|Total,5,5"}, {"1,2,3,4,5,6", "1 2 3/4 5 6/MEAN 1/+", ",,,4,Total|,,,5,|,,,6,|,,,MEAN 1,MEAN 1|1,2,3,1,1|Total,,,1,1"},
		// A key that is told as the totals are.
		{"Total,1;a,2", "1//SUM 2/+", ",SUM 2|a,2|Total,1|Total,3"}, {"a,Total,1;a,x,2", "1/2/SUM 3/+", ",Total,x,Total|,SUM 3,SUM 3,SUM 3|a,1,2,3|Total,1,2,3"},
	})
}

// TestKeysAndCellsOfPivots: keys of every kind, and folds of cells that are no numbers.
func TestKeysAndCellsOfPivots(t *testing.T) {
	checkPivots(t, [][3]string{
		{";0;';FALSE;#N/A;#DIV/0!;x;X", "1//COUNT 1/+", ",COUNT 1|0,1|',1|x,2|FALSE,1|,0|#DIV/0!,1|#N/A,1|Total,7"}, {"1,;1,0;1,';1,FALSE;1,#REF!;1,#N/A", "1/2/COUNT 2/", ",0,',FALSE,,#N/A,#REF!|,COUNT 2,COUNT 2,COUNT 2,COUNT 2,COUNT 2,COUNT 2|1,1,1,1,0,1,1"},
		// Rows that have no numbers are rows all the same.
		{"a,x;b,;c,TRUE", "1//SUM 2,MIN 2,MEAN 2,COUNT 2/+", ",SUM 2,MIN 2,MEAN 2,COUNT 2|a,0,0,#DIV/0!,1|b,0,0,#DIV/0!,0|c,0,0,#DIV/0!,1|Total,0,0,#DIV/0!,2"}, {"a,p,x;b,q,1", "1/2/MEAN 3/+", ",p,q,Total|,MEAN 3,MEAN 3,MEAN 3|a,#DIV/0!,,#DIV/0!|b,,1,1|Total,#DIV/0!,1,1"},
		// An error is in its own group, and in the totals; the first one by the rows of the grid.
		{"b,#REF!;a,1;a,#N/A;b,2", "1//SUM 2,COUNT 2/+", ",SUM 2,COUNT 2|a,#N/A,2|b,#REF!,2|Total,#REF!,4"}, {"a,p,#NUM!;a,q,1;b,p,2", "1/2/MAX 3/+", ",p,q,Total|,MAX 3,MAX 3,MAX 3|a,#NUM!,1,#NUM!|b,2,,2|Total,#NUM!,1,#NUM!"},
		// Sums are put at each step, in the order of the rows, not of the groups.
		{"b,1E20;a,1;b,-1E20", "1//SUM 2/+", ",SUM 2|a,1|b,0|Total,0"}, {"b,1E20;b,-1E20;a,1", "1//SUM 2/+", ",SUM 2|a,1|b,0|Total,1"}, {"a,999999999999999E300;b,999999999999999E300", "1//SUM 2,MAX 2/+", ",SUM 2,MAX 2|a,999999999999999E300,999999999999999E300|b,999999999999999E300,999999999999999E300|Total,#NUM!,999999999999999E300"},
		{"a,1;a,0;a,0;b,2", "1//MEAN 2/+", ",MEAN 2|a,0.333333333333333|b,2|Total,0.75"},
	})
}

// wideGrid has six columns.
const wideGrid = "1,2,3,4,5,6;1,3,2,4,6,5"

func TestNoPivots(t *testing.T) {
	g := gridOf(wideGrid)
	for _, text := range []string{
		// No rows, or too many; too many columns.
		"//SUM 1/", "/1/SUM 1/", "1 2 3 4//SUM 1/", "1 2 3 4 5 6//SUM 1/", "1/2 3 4 5/SUM 1/", "1/2 3 4 5 6/SUM 1/", "1 2 3 4/5 6/SUM 1/",
		// A column twice, on one side and on both.
		"1 1//SUM 1/", "1 2 1//SUM 1/", "1 2 2//SUM 1/", "1/2 2/SUM 1/", "1/2 3 2/SUM 1/", "1/1/SUM 1/", "1 2/3 2/SUM 1/", "1 2 3/4 5 1/SUM 1/", "3/1 2 3/SUM 1/",
		// No measures, or too many.
		"1/2//", "1///", "1/2/SUM 1,SUM 2,SUM 3,SUM 4,SUM 5/", "1/2/SUM 1,SUM 1,SUM 1,SUM 1,SUM 1,SUM 1/",
		// Columns that are none.
		"0//SUM 1/", "7//SUM 1/", "1 7//SUM 1/", "-1//SUM 1/", "1/0/SUM 1/", "1/7/SUM 1/", "1/2 3 7/SUM 1/", "1/-2/SUM 1/", "1//SUM 0/", "1//SUM 7/", "1//SUM -1/", "1//SUM 1,SUM 2,SUM 3,SUM 7/", "1//SUM 0,SUM 1/",
	} {
		p := pivotOf(text)
		wantPivot(t, text, g, p, false, "")
		p.Totals = true
		wantPivot(t, text, g, p, false, "")
	}
	for _, text := range []string{"1 2 3/4 5 6/SUM 1,COUNT 6,MEAN 2,MAX 5/", "1//SUM 1/", "6/1 2 3/SUM 6/", "1 2 3//MIN 6,MIN 6,MIN 6,MIN 6/", "6 5 4/3 2 1/MAX 1/"} {
		if p := pivotOf(text); !impl.GoodPivot(g, p) || impl.PivotGrid(g, p).Rows < 2 {
			t.Errorf("no pivot %s", text)
		}
	}
	good := pivotOf("1/2/SUM 3,COUNT 4/")
	for _, n := range append([]int{0, -2, 7, 8}, farNumbers...) {
		for at := range 5 {
			p := clonedPivot(good)
			switch at {
			case 0:
				p.Rows = append(p.Rows, n)
			case 1:
				p.Cols[0] = n
			case 2:
				p.Measures[1].Col = n
			case 3:
				p.Measures[0].Fold = n
			case 4:
				p.Measures[1].Fold = n
			}
			wantPivot(t, n, g, p, false, "")
		}
	}
	for _, fold := range []int{0, 6, -1, 1<<32 + 1} {
		wantPivot(t, fold, g, impl.Pivot{Rows: []int{1}, Measures: []impl.Measure{{Col: 1, Fold: fold}}}, false, "")
	}
	long := slices.Repeat([]int{1}, 5000)
	for _, p := range []impl.Pivot{{}, {Totals: true}, {Rows: long, Measures: good.Measures}, {Rows: []int{1}, Cols: long, Measures: good.Measures}, {Rows: []int{1}, Measures: slices.Repeat(good.Measures, 2000)}} {
		wantPivot(t, "pivots of many", g, p, false, "")
	}
	for _, bad := range noGrids() {
		for _, p := range []impl.Pivot{pivotOf("1//SUM 1/"), pivotOf("1//COUNT 1/+"), pivotOf("1/2/SUM 1/+"), {}} {
			wantPivot(t, []int{bad.Rows, bad.Cols, len(bad.Cells)}, bad, p, false, "")
		}
	}
}

// counting is a grid of so many rows whose columns count from 0 on, each up to its own number and then again.
func counting(rows int, ends ...int) impl.Grid {
	g := impl.Grid{Rows: rows, Cols: len(ends)}
	for row := range rows {
		for _, end := range ends {
			g.Cells = append(g.Cells, countOf(row%end))
		}
	}
	return g
}

// TestMostPivotCells: pivots of as many cells as there may be, and of more. They are good either way.
func TestMostPivotCells(t *testing.T) {
	for _, c := range []struct {
		rows, below, beside int
		pivot               string
		wantRows, wantCols  int
	}{
		{999, 999, 1, "1//SUM 1/", 1000, 2}, {1000, 1000, 1, "1//SUM 1/", 0, 0}, {998, 998, 1, "1//SUM 1/+", 1000, 2}, {999, 999, 1, "1//SUM 1/+", 0, 0}, {665, 665, 1, "1//SUM 1,COUNT 2/", 666, 3}, {666, 666, 1, "1//SUM 1,COUNT 2/", 0, 0}, {399, 399, 1, "1//SUM 1,MIN 1,MAX 1,MEAN 1/", 400, 5}, {400, 400, 1, "1//SUM 1,MIN 1,MAX 1,MEAN 1/", 0, 0}, {665, 665, 1, "1 2//SUM 1/", 666, 3}, {666, 666, 1, "1 2//SUM 1/", 0, 0}, {1000, 1, 2, "1//SUM 1/", 2, 2},
		{49, 38, 49, "1/2/SUM 1/", 40, 50}, {50, 38, 50, "1/2/SUM 1/", 0, 0}, {49, 39, 49, "1/2/SUM 1/", 0, 0}, {86, 21, 86, "1/2/SUM 1/", 0, 0}, {48, 37, 48, "1/2/SUM 1/+", 40, 50}, {49, 37, 49, "1/2/SUM 1/+", 0, 0}, {48, 38, 48, "1/2/SUM 1/+", 0, 0}, {665, 1, 665, "1/2/COUNT 2/", 3, 666}, {666, 1, 666, "1/2/COUNT 2/", 0, 0}, {166, 1, 166, "1/2/SUM 1,SUM 2,MIN 1,MIN 2/", 3, 665}, {167, 1, 167, "1/2/SUM 1,SUM 2,MIN 1,MIN 2/", 0, 0}, {1000, 1000, 1000, "1/2/SUM 1/", 0, 0}, {1000, 1000, 1000, "1/2/SUM 1,SUM 2,MIN 1,MIN 2/+", 0, 0},
	} {
		g, p := counting(c.rows, c.below, c.beside), pivotOf(c.pivot)
		if !impl.GoodPivot(g, p) {
			t.Errorf("no good pivot %v", c)
		}
		got := impl.PivotGrid(g, p)
		if c.wantRows == 0 {
			wantNoGrid(t, got)
		} else if got.Rows != c.wantRows || got.Cols != c.wantCols || !impl.GoodGrid(got) {
			t.Errorf("%v: %d times %d with %d cells", c, got.Rows, got.Cols, len(got.Cells))
		}
	}
	// All rows in one cell.
	wantPivot(t, "as many rows as there may be", fullGrid(2000, 1, numVal("0.5")), pivotOf("1//SUM 1,COUNT 1/+"), true, `_,"SUM 1","COUNT 1";0.5,1000,2000;"Total",1000,2000`)
	wide := fullGrid(1, 2000, yes)
	wantPivot(t, "as many columns as there may be", wide, pivotOf("2000/1999/COUNT 1998,COUNT 2000/"), true, `_,TRUE,TRUE;_,"COUNT 1998","COUNT 2000";TRUE,1,1`)
	wantPivot(t, "a column beyond", wide, pivotOf("2001//COUNT 1/"), false, "")
}

// TestPivotsAreNewMemory writes into what is handed in and out.
func TestPivotsAreNewMemory(t *testing.T) {
	g, p := gridOf(sales), pivotOf("1/2/SUM 4/+")
	want := gridMarks(gridOf(",x,y,Total;,SUM 4,SUM 4,SUM 4;n,10,40,50;s,100,,100;Total,110,40,150"))
	for range 2 {
		wantPivot(t, sales, g, p, true, want)
		got := impl.PivotGrid(g, p)
		_ = append(got.Cells, yes, yes, yes)
		clear(got.Cells)
	}
	got := impl.PivotGrid(g, p)
	clear(g.Cells)
	clear(p.Rows)
	clear(p.Cols)
	clear(p.Measures)
	if told := gridMarks(got); told != want {
		t.Errorf("%s when the grid is written into", told)
	}
}
