package tests

import (
	"slices"
	"strings"
	"testing"

	"loop.example/g00025/impl"
)

// counts: every function, with how many arguments it takes at least and at most.
var counts = []struct {
	names       string
	least, most int
}{
	{"SUM PRODUCT COUNT COUNTA COUNTBLANK MIN MAX AVERAGE MEDIAN SUMSQ VAR STDEV AND OR XOR CONCAT HSTACK VSTACK", 1, 30},
	{"TEXTJOIN", 3, 30},
	{"ABS SIGN INT SQRT LEN UPPER LOWER TRIM VALUE ISNUMBER ISTEXT ISLOGICAL ISBLANK ISERROR ISNA NOT ROWS COLUMNS TRANSPOSE UNIQUE YEAR MONTH DAY WEEKDAY", 1, 1},
	{"ROUND ROUNDUP ROUNDDOWN MOD QUOTIENT POWER REPT EXACT MMULT TAKE DROP COUNTIF EDATE LARGE SMALL", 2, 2},
	{"MID DATE FV PMT", 3, 3},
	{"LEFT RIGHT", 1, 2},
	{"FIND INDEX MATCH FILTER SUMIF AVERAGEIF NETWORKDAYS RANK", 2, 3},
	{"SUBSTITUTE VLOOKUP", 3, 4},
	{"SORT", 1, 3},
	{"SEQUENCE", 1, 4},
	{"CHOOSE NPV", 2, 30},
}

var noFunctions = []string{
	"", " ", "sum", "Sum", "SUm", " SUM", "SUM ", "SUM(", "=SUM", "SUMS", "SU", "SUM\x00", "\xff", "#NAME?", "A1", "TRUE", "+", "NOSUCH", "ROUND.UP", "STDEVP", "XLOOKUP",
	// These are chapter 8's.
	"IF", "IFERROR", "LET", "LAMBDA", "MAP", "REDUCE", "BYROW", strings.Repeat("SUM", 1000),
}

// counted goes through all functions.
func counted(visit func(name string, least, most int)) {
	for _, c := range counts {
		for _, name := range strings.Fields(c.names) {
			visit(name, c.least, c.most)
		}
	}
}

// called asks a function with grids that are told as gridOf takes them.
func called(name string, args ...string) impl.Grid {
	var grids []impl.Grid
	for _, text := range args {
		grids = append(grids, gridOf(text))
	}
	return impl.CallFunction(name, grids)
}

func sameGrids(a, b impl.Grid) bool {
	return a.Rows == b.Rows && a.Cols == b.Cols && slices.Equal(a.Cells, b.Cells)
}

func wantGrid(t *testing.T, what string, from any, got, want impl.Grid) {
	t.Helper()
	if !sameGrids(got, want) {
		t.Errorf("%s of %v is %v, want %v", what, from, got, want)
	}
}

// wantSingle asks for one cell.
func wantSingle(t *testing.T, what string, from any, got impl.Grid, want impl.Value) {
	t.Helper()
	wantGrid(t, what, from, got, fullGrid(1, 1, want))
}

// checkCalls has of each call the name, what is asked for, and the arguments; texts that would be numbers have a ' ahead.
func checkCalls(t *testing.T, calls [][]string) {
	t.Helper()
	for _, c := range calls {
		wantGrid(t, c[0], c[2:], called(c[0], c[2:]...), gridOf(c[1]))
	}
}

func TestFunctionNames(t *testing.T) {
	var want []string
	counted(func(name string, least, most int) { want = append(want, name) })
	slices.Sort(want)
	got := impl.FunctionNames()
	if !slices.Equal(got, want) {
		t.Errorf("%v, want %v", got, want)
	}
	for i := range got {
		got[i] = "X"
	}
	if !slices.Equal(impl.FunctionNames(), want) {
		t.Error("the names were kept from one call to the other")
	}
}

func TestArgCount(t *testing.T) {
	counted(func(name string, least, most int) {
		if a, b := impl.ArgCount(name); a != least || b != most {
			t.Errorf("ArgCount(%s) = %d, %d, want %d, %d", name, a, b, least, most)
		}
		for _, other := range []string{strings.ToLower(name), name + " ", name + "\x00", name[:1] + strings.ToLower(name[1:])} {
			if a, b := impl.ArgCount(other); a != 0 || b != 0 {
				t.Errorf("ArgCount(%q) = %d, %d", other, a, b)
			}
		}
	})
	for _, name := range noFunctions {
		if a, b := impl.ArgCount(name); a != 0 || b != 0 {
			t.Errorf("ArgCount(%q) = %d, %d", name, a, b)
		}
	}
}

func TestNoFunctions(t *testing.T) {
	for _, name := range noFunctions {
		for _, args := range [][]impl.Grid{nil, {}, {gridOf("1")}, {gridOf("#N/A"), gridOf("1,2")}, {{}}, noGrids(), slices.Repeat([]impl.Grid{gridOf("1")}, 31)} {
			wantSingle(t, name, len(args), impl.CallFunction(name, args), noSign)
		}
	}
}

func TestHowManyArguments(t *testing.T) {
	counted(func(name string, least, most int) {
		for _, text := range []string{"1", "#N/A", "TRUE", "1,2;3,4"} {
			for n := range 33 {
				args := slices.Repeat([]impl.Grid{gridOf(text)}, n)
				got := impl.CallFunction(name, args)
				if n < least || n > most {
					wantSingle(t, name, n, got, notThis)
					continue
				}
				if !impl.GoodGrid(got) {
					t.Errorf("%s of %d times %s is %v", name, n, text, got)
				}
			}
		}
		wantSingle(t, name, 100000, impl.CallFunction(name, make([]impl.Grid, 100000)), notThis)
	})
	// One cell is an answer here, so that a number of arguments that is taken is told apart from one that is not.
	counted(func(name string, least, most int) {
		for _, n := range []int{least, most} {
			if !taken(name, n) {
				t.Errorf("%s takes no %d arguments", name, n)
			}
		}
	})
}

// taken says whether some cells give another answer than #VALUE!.
func taken(name string, n int) bool {
	for _, text := range []string{"1", "TRUE", "a", "0", "1;1"} {
		if !sameGrids(impl.CallFunction(name, slices.Repeat([]impl.Grid{gridOf(text)}, n)), fullGrid(1, 1, notThis)) {
			return true
		}
	}
	return false
}

// TestArgumentsThatAreNotGood has a bad grid at each place, also where one has no need of it.
func TestArgumentsThatAreNotGood(t *testing.T) {
	bad := noGrids()
	counted(func(name string, least, most int) {
		for n := least; n <= min(most, 5); n++ {
			for at := range n {
				for i, g := range bad {
					// Only some of them at each place: there are many.
					if (i+at+n)%7 != 0 {
						continue
					}
					args := slices.Repeat([]impl.Grid{gridOf("1")}, n)
					args[at] = g
					wantSingle(t, name, args, impl.CallFunction(name, args), notThis)
					args = slices.Repeat([]impl.Grid{gridOf("#N/A")}, n)
					args[at] = g
					wantSingle(t, name, args, impl.CallFunction(name, args), notThis)
				}
			}
		}
	})
	for _, g := range bad {
		for _, name := range []string{"COUNT", "ISERROR", "CHOOSE", "HSTACK", "TRANSPOSE", "IFERROR"} {
			want := notThis
			if name == "IFERROR" {
				want = noSign
			}
			wantSingle(t, name, g, impl.CallFunction(name, []impl.Grid{g}), want)
		}
		wantSingle(t, "CHOOSE", g, impl.CallFunction("CHOOSE", []impl.Grid{gridOf("1"), gridOf("2"), g}), notThis)
	}
}

// TestCallsAreNewMemory writes into the answers, and into the room behind the arguments' cells.
func TestCallsAreNewMemory(t *testing.T) {
	counted(func(name string, least, most int) {
		for _, text := range []string{"1,1;1,1", "1", "TRUE;TRUE", "2,1,2", "#REF!,1", "a,b;a,b", ";"} {
			for n := least; n <= min(most, 4); n++ {
				var args []impl.Grid
				var rooms [][]impl.Value
				for range n {
					g := gridOf(text)
					room := append(slices.Clone(g.Cells), slices.Repeat([]impl.Value{yes}, 20)...)
					args = append(args, impl.Grid{Rows: g.Rows, Cols: g.Cols, Cells: room[:len(g.Cells)]})
					rooms = append(rooms, room)
				}
				got := impl.CallFunction(name, args)
				first := slices.Clone(got.Cells)
				for i := range got.Cells {
					got.Cells[i] = errVal("#NULL!")
				}
				want := append(gridOf(text).Cells, slices.Repeat([]impl.Value{yes}, 20)...)
				for i, room := range rooms {
					if !slices.Equal(room, want) || !sameGrids(args[i], gridOf(text)) {
						t.Errorf("%s of %d times %s wrote into argument %d", name, n, text, i)
					}
				}
				if again := impl.CallFunction(name, args); !slices.Equal(again.Cells, first) {
					t.Errorf("%s of %d times %s is %v, and then %v", name, n, text, first, again.Cells)
				}
			}
		}
	})
}

// TestErrorsOfArguments: which one of several is told, for functions that go through their arguments in order.
func TestErrorsOfArguments(t *testing.T) {
	for _, c := range []struct{ name, args string }{
		// Each 1 may be put in place of an error.
		{"SUM", "1 1 1"}, {"CONCAT", "1 1 1"}, {"TEXTJOIN", "1 1 1 1"}, {"AND", "1 1"}, {"NPV", "1 1 1"},
		{"ROUND", "1 1"}, {"MOD", "1 1"}, {"POWER", "1 1"}, {"MID", "1 1 1"}, {"FIND", "1 1 1"}, {"SUBSTITUTE", "1 1 1 1"}, {"REPT", "1 1"}, {"EXACT", "1 1"}, {"LEFT", "1 1"}, {"RIGHT", "1 1"}, {"QUOTIENT", "1 1"},
		{"DATE", "1 1 1"}, {"EDATE", "1 1"}, {"NETWORKDAYS", "1 1 1"}, {"FV", "1 1 1"}, {"PMT", "1 1 1"}, {"LARGE", "1 1"}, {"SMALL", "1 1"}, {"RANK", "1 1 1"}, {"SEQUENCE", "1 1 1 1"},
		{"ABS", "1"}, {"SIGN", "1"}, {"INT", "1"}, {"SQRT", "1"}, {"LEN", "1"}, {"UPPER", "1"}, {"LOWER", "1"}, {"TRIM", "1"}, {"VALUE", "1"}, {"NOT", "1"}, {"YEAR", "1"}, {"MONTH", "1"}, {"DAY", "1"}, {"WEEKDAY", "1"},
		// A list that is searched has them without their being told, and so has a grid that is put in.
		{"MATCH", "1 - 1"}, {"VLOOKUP", "1 - 1 1"}, {"INDEX", "- 1 1"}, {"CHOOSE", "1 - -"}, {"SORT", "- 1 1"}, {"TAKE", "- 1"}, {"DROP", "- 1"}, {"COUNTIF", "- 1"}, {"SUMIF", "- 1 -"}, {"AVERAGEIF", "- 1 -"}, {"FILTER", "- 1 -"},
	} {
		places := strings.Fields(c.args)
		for mask := 1; mask < 1<<len(places); mask++ {
			var args []string
			want := ""
			for i, place := range places {
				switch {
				case place == "-":
					args = append(args, "1")
				case mask>>i&1 == 1:
					args = append(args, errorTexts[i])
					if want == "" {
						want = errorTexts[i]
					}
				default:
					args = append(args, "1")
				}
			}
			if want != "" {
				wantGrid(t, c.name, args, called(c.name, args...), gridOf(want))
			}
		}
	}
}
