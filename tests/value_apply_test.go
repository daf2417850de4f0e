package tests

import (
	"slices"
	"strings"
	"testing"

	"loop.example/g00025/impl"
)

var (
	noNumber = errVal("#NUM!")
	byNought = errVal("#DIV/0!")
	noCell   = errVal("#N/A")
	noSign   = errVal("#NAME?")
)

var knownApplied = []struct {
	sign    string
	a, b    impl.Value
	outcome impl.Value
}{
	{"+", numVal("1"), numVal("2"), numVal("3")},
	{"+", numVal("0.1"), numVal("0.2"), numVal("0.3")},
	{"-", numVal("1"), numVal("2"), numVal("-1")},
	{"-", numVal("2"), numVal("2"), numVal("0")},
	{"*", numVal("-3"), numVal("2.5"), numVal("-7.5")},
	{"/", numVal("7"), numVal("2"), numVal("3.5")},
	{"/", numVal("2"), numVal("3"), numVal("0.666666666666667")},
	{"/", numVal("0"), numVal("-5"), numVal("0")},
	{"^", numVal("2"), numVal("3"), numVal("8")},

	// What is no number becomes one.
	{"+", yes, yes, numVal("2")},
	{"-", no, yes, numVal("-1")},
	{"*", wordsVal(" 3 "), yes, numVal("3")},
	{"/", wordsVal("1"), wordsVal("4"), numVal("0.25")},
	{"^", wordsVal("9"), wordsVal("0.5"), numVal("3")},
	{"^", yes, no, numVal("1")},
	{"+", empty, empty, numVal("0")},
	{"-", empty, numVal("5"), numVal("-5")},
	{"-", numVal("5"), empty, numVal("5")},
	{"*", empty, numVal("5"), numVal("0")},
	{"/", empty, numVal("5"), numVal("0")},
	{"/", numVal("5"), empty, byNought},
	{"/", numVal("5"), no, byNought},
	{"/", numVal("5"), wordsVal("0.0"), byNought},
	{"/", empty, empty, byNought},
	{"^", empty, empty, noNumber},
	{"^", numVal("5"), empty, numVal("1")},
	{"^", empty, numVal("5"), numVal("0")},
	{"^", empty, numVal("-5"), byNought},
	{"+", wordsVal("a"), numVal("1"), notThis},
	{"+", numVal("1"), wordsVal("a"), notThis},
	{"+", wordsVal(""), numVal("1"), notThis},
	{"*", wordsVal("TRUE"), numVal("1"), notThis},
	{"/", wordsVal("a"), numVal("0"), notThis},
	{"/", wordsVal("a"), empty, notThis},
	{"^", wordsVal("a"), numVal("-1"), notThis},
	{"^", numVal("0"), wordsVal("a"), notThis},

	// Numbers that are too great are none, those that are too small are 0.
	{"+", numVal("999999999999999E300"), numVal("999999999999999E300"), noNumber},
	{"-", numVal("-999999999999999E300"), numVal("999999999999999E300"), noNumber},
	{"*", numVal("1E300"), numVal("10"), noNumber},
	{"*", numVal("1E300"), numVal("-1E300"), noNumber},
	{"/", numVal("1E300"), numVal("0.1"), noNumber},
	{"*", numVal("1E-300"), numVal("0.1"), numVal("0")},
	{"/", numVal("1E-300"), numVal("-10"), numVal("0")},
	{"*", numVal("1E300"), numVal("1"), numVal("1E300")},
	{"*", numVal("1E-300"), numVal("1"), numVal("1E-300")},

	{"&", numVal("1"), yes, wordsVal("1TRUE")},
	{"&", wordsVal("a"), wordsVal("B"), wordsVal("aB")},
	{"&", no, numVal("-0.05"), wordsVal("FALSE-0.05")},
	{"&", numVal("1E20"), wordsVal(" "), wordsVal("1E+20 ")},
	{"&", empty, empty, wordsVal("")},
	{"&", empty, wordsVal("x"), wordsVal("x")},
	{"&", wordsVal("x"), empty, wordsVal("x")},
	{"&", wordsVal("#N/"), wordsVal("A"), wordsVal("#N/A")},
	{"&", wordsVal("1"), wordsVal("2"), wordsVal("12")},
}

func wantApplied(t *testing.T, sign string, a, b, want impl.Value) {
	t.Helper()
	wantValue(t, sign, []impl.Value{a, b}, impl.Apply(sign, a, b), want)
}

func TestApply(t *testing.T) {
	for _, c := range knownApplied {
		wantApplied(t, c.sign, c.a, c.b, c.outcome)
	}
}

func TestPowers(t *testing.T) {
	for _, c := range []struct{ a, b, want string }{
		{"2", "10", "1024"}, {"2", "-2", "0.25"}, {"-2", "3", "-8"}, {"-2", "2", "4"}, {"5", "0", "1"}, {"-5", "0", "1"}, {"5", "1", "5"}, {"0", "1", "0"}, {"0", "3", "0"},
		{"0", "0", "#NUM!"}, {"0", "-1", "#DIV/0!"}, {"0", "-1000", "#DIV/0!"}, {"0", "-1001", "#DIV/0!"}, {"0", "-0.5", "#DIV/0!"}, {"0", "-0.3", "#DIV/0!"}, {"0", "-1E300", "#DIV/0!"}, {"0", "-1E-300", "#DIV/0!"},
		{"0", "0.5", "0"}, {"0", "0.3", "#NUM!"}, {"0", "1000", "0"}, {"0", "1001", "#NUM!"}, {"0", "1E-300", "#NUM!"},
		{"1", "1000", "1"}, {"1", "1001", "#NUM!"}, {"1", "-1000", "1"}, {"1", "-1001", "#NUM!"}, {"-1", "999", "-1"}, {"-1", "-1000", "1"},
		{"1", "1E15", "#NUM!"}, {"1", "-1E15", "#NUM!"}, {"1", "1E300", "#NUM!"}, {"1", "18446744073709551616", "#NUM!"}, {"1", "9E18", "#NUM!"},
		{"10", "300", "1E+300"}, {"10", "301", "#NUM!"}, {"10", "-300", "1E-300"}, {"10", "-301", "#NUM!"}, {"0.1", "300", "1E-300"}, {"0.1", "301", "0"}, {"0.1", "-301", "#NUM!"},
		{"4", "0.5", "2"}, {"2", "0.5", "1.4142135623731"}, {"1E300", "0.5", "1E+150"}, {"1E-300", "0.5", "1E-150"}, {"-4", "0.5", "#NUM!"}, {"-1E-300", "0.5", "#NUM!"},
		{"4", "-0.5", "#NUM!"}, {"4", "1.5", "#NUM!"}, {"4", "0.25", "#NUM!"}, {"4", "0.50000000000001", "#NUM!"}, {"1", "0.3", "#NUM!"}, {"4", "5", "1024"}, {"4", "2.5", "#NUM!"}, {"1", "1E-300", "#NUM!"},
	} {
		if got := impl.ShowValue(impl.Apply("^", numVal(c.a), numVal(c.b))); got != c.want {
			t.Errorf("%s ^ %s is %s, want %s", c.a, c.b, got, c.want)
		}
	}
}

func TestLongJoins(t *testing.T) {
	for _, c := range []struct {
		a, b impl.Value
		good bool
	}{
		{wordsVal(letters(500)), wordsVal(letters(500)), true},
		{wordsVal(letters(1000)), wordsVal(""), true},
		{wordsVal(letters(1000)), empty, true},
		{empty, wordsVal(letters(1000)), true},
		{wordsVal(letters(996)), yes, true},
		{wordsVal(letters(997)), yes, false},
		{no, wordsVal(letters(995)), true},
		{no, wordsVal(letters(996)), false},
		{wordsVal(letters(997)), numVal("0.5"), true},
		{wordsVal(letters(998)), numVal("0.5"), false},
		{wordsVal(letters(500)), wordsVal(letters(501)), false},
		{wordsVal(letters(1000)), wordsVal(" "), false},
		{wordsVal(" "), wordsVal(letters(1000)), false},
		{wordsVal(letters(1000)), wordsVal(letters(1000)), false},
	} {
		want := notThis
		if c.good {
			want = wordsVal(impl.ShowValue(c.a) + impl.ShowValue(c.b))
		}
		wantApplied(t, "&", c.a, c.b, want)
	}
}

func TestWhichErrorIsTold(t *testing.T) {
	for _, first := range errorTexts {
		for _, second := range errorTexts {
			for _, sign := range operators {
				wantApplied(t, sign, errVal(first), errVal(second), errVal(first))
			}
		}
	}
	for _, text := range errorTexts {
		// An error that is there comes ahead of one that is made, even of the left side.
		for _, v := range []impl.Value{empty, numVal("0"), numVal("1E300"), wordsVal("a"), wordsVal(letters(1000)), yes} {
			for _, sign := range operators {
				wantApplied(t, sign, errVal(text), v, errVal(text))
				wantApplied(t, sign, v, errVal(text), errVal(text))
			}
		}
	}
}

func TestNoOperators(t *testing.T) {
	all := slices.Concat(goodValues(), noValues())
	for _, sign := range noOperators {
		for i, v := range all {
			wantApplied(t, sign, v, all[len(all)-1-i], noSign)
			wantApplied(t, sign, v, numVal("1"), noSign)
			wantApplied(t, sign, numVal("1"), v, noSign)
		}
		one := fullGrid(1, 1, numVal("1"))
		wantNoGrid(t, impl.ApplyGrid(sign, one, one))
	}
}

func wantNoGrid(t *testing.T, g impl.Grid) {
	t.Helper()
	if g.Rows != 0 || g.Cols != 0 || len(g.Cells) != 0 {
		t.Errorf("a grid of %d times %d with %d cells, want none", g.Rows, g.Cols, len(g.Cells))
	}
}

// gridOf reads cells that are told as numbers, with `;` between rows and `,` between cells; what is no number is a text.
func gridOf(text string) impl.Grid {
	g := impl.Grid{}
	for _, row := range strings.Split(text, ";") {
		g.Rows++
		cells := strings.Split(row, ",")
		g.Cols = len(cells)
		for _, c := range cells {
			g.Cells = append(g.Cells, impl.TypedValue(c))
		}
	}
	return g
}

func gridText(g impl.Grid) string {
	out := ""
	for i, v := range g.Cells {
		switch {
		case i == 0:
		case i%g.Cols == 0:
			out += ";"
		default:
			out += ","
		}
		out += impl.ShowValue(v)
	}
	return out
}

func TestApplyGrid(t *testing.T) {
	for _, c := range []struct{ sign, a, b, want string }{
		{"+", "1", "2", "3"},
		{"+", "1,2;3,4", "10,20;30,40", "11,22;33,44"},
		{"-", "1,2;3,4", "10", "-9,-8;-7,-6"},
		{"-", "10", "1,2;3,4", "9,8;7,6"},
		{"*", "1;2", "10,20,x", "10,20,#VALUE!;20,40,#VALUE!"},
		{"*", "10,20,x", "1;2", "10,20,#VALUE!;20,40,#VALUE!"},
		{"-", "1,2,3;4,5,6", "1,2,3", "0,0,0;3,3,3"},
		{"-", "1,2,3", "1,2,3;4,5,6", "0,0,0;-3,-3,-3"},
		{"-", "1,2,3;4,5,6", "1;2", "0,1,2;2,3,4"},
		{"-", "1;2", "1,2,3;4,5,6", "0,-1,-2;-2,-3,-4"},
		{"+", "1;2;3", "1;1", "2;3;#N/A"},
		{"+", "1;1", "1;2;3", "2;3;#N/A"},
		{"+", "1,2,3", "1,1", "2,3,#N/A"},
		{"+", "1,1", "1,2,3", "2,3,#N/A"},
		{"+", "1,2;3,4", "1,2,3", "2,4,#N/A;4,6,#N/A"},
		{"+", "1,2;3,4", "1;2;3", "2,3;5,6;#N/A,#N/A"},
		{"+", "1,2,3;4,5,6", "1,2;3,4;5,6", "2,4,#N/A;7,9,#N/A;#N/A,#N/A,#N/A"},
		{"+", "1,2;3,4;5,6", "1,2,3;4,5,6", "2,4,#N/A;7,9,#N/A;#N/A,#N/A,#N/A"},
		// Where one has no cell, that is told, and not the other one's error.
		{"+", "#REF!,#REF!,#REF!", "1,2", "#REF!,#REF!,#N/A"},
		{"&", "a,b", "1;TRUE;", "a1,b1;aTRUE,bTRUE;a,b"},
		{"=", "1,a;,TRUE", "1,A;0,FALSE", "TRUE,TRUE;TRUE,FALSE"},
		{"/", "1,#N/A;x,4", "0,#REF!;0,2", "#DIV/0!,#N/A;#VALUE!,2"},
		{"^", "4,0;0,2", "0.5,0;-1,3", "2,#NUM!;#DIV/0!,8"},
	} {
		a, b := gridOf(c.a), gridOf(c.b)
		got := impl.ApplyGrid(c.sign, a, b)
		if told := gridText(got); told != c.want || !impl.GoodGrid(got) || got.Cols != gridOf(c.want).Cols {
			t.Errorf("%s %s %s is %s (%d columns), want %s", c.a, c.sign, c.b, told, got.Cols, c.want)
		}
	}
}

func TestGridsAtTheLimit(t *testing.T) {
	one := numVal("1")
	for _, c := range []struct {
		a, b [2]int
		good bool
	}{
		{[2]int{1, 1}, [2]int{1, 2000}, true}, {[2]int{2000, 1}, [2]int{2000, 1}, true}, {[2]int{40, 1}, [2]int{1, 50}, true}, {[2]int{40, 50}, [2]int{2, 2}, true}, {[2]int{40, 2}, [2]int{3, 50}, true},
		{[2]int{2000, 1}, [2]int{1, 1}, true}, {[2]int{1000, 1}, [2]int{1, 2}, true}, {[2]int{1, 666}, [2]int{3, 1}, true},
		{[2]int{2000, 1}, [2]int{1, 2}, false}, {[2]int{1, 2000}, [2]int{2, 1}, false}, {[2]int{2000, 1}, [2]int{1, 2000}, false}, {[2]int{3, 1}, [2]int{1, 667}, false}, {[2]int{1, 667}, [2]int{3, 2}, false}, {[2]int{45, 1}, [2]int{1, 45}, false}, {[2]int{1001, 1}, [2]int{1, 2}, false},
	} {
		for _, sign := range operators {
			for _, sides := range [][2][2]int{{c.a, c.b}, {c.b, c.a}} {
				x, y := sides[0], sides[1]
				g := impl.ApplyGrid(sign, fullGrid(x[0], x[1], one), fullGrid(y[0], y[1], one))
				if !c.good {
					wantNoGrid(t, g)
					continue
				}
				if g.Rows != max(x[0], y[0]) || g.Cols != max(x[1], y[1]) || !impl.GoodGrid(g) || g.Cells[0] != impl.Apply(sign, one, one) {
					t.Errorf("%v %s %v is of %d times %d with %d cells", x, sign, y, g.Rows, g.Cols, len(g.Cells))
				}
			}
		}
	}
}

func TestGridsThatAreNotGood(t *testing.T) {
	for _, bad := range noGrids() {
		for _, good := range []impl.Grid{fullGrid(1, 1, empty), fullGrid(2, 3, noCell), fullGrid(2000, 1, yes), bad} {
			for _, sign := range []string{"+", "&", "=", "^", "%", ""} {
				wantNoGrid(t, impl.ApplyGrid(sign, bad, good))
				wantNoGrid(t, impl.ApplyGrid(sign, good, bad))
			}
		}
	}
}

func TestGridsAreNewMemory(t *testing.T) {
	for _, sides := range [][2]int{{1, 1}, {1, 3}, {3, 1}, {2, 3}} {
		// Room behind the cells would be written into by one that goes on there.
		roomy := slices.Repeat([]impl.Value{yes}, 20)
		a := impl.Grid{Rows: sides[0], Cols: sides[1], Cells: roomy[:sides[0]*sides[1]]}
		b := fullGrid(2, 3, empty)
		for _, sign := range operators {
			g := impl.ApplyGrid(sign, a, b)
			h := impl.ApplyGrid(sign, b, a)
			for i := range g.Cells {
				g.Cells[i], h.Cells[i] = errVal("#NULL!"), errVal("#NULL!")
			}
			same := impl.ApplyGrid(sign, a, a)
			same.Cells[0] = errVal("#NULL!")
		}
		if slices.ContainsFunc(roomy, func(v impl.Value) bool { return v != yes }) || !slices.Equal(b.Cells, fullGrid(2, 3, empty).Cells) {
			t.Errorf("an argument of %v was written into", sides)
		}
	}
}

var knownTyped = []struct {
	text string
	want impl.Value
}{
	{"", empty},
	{"12", numVal("12")}, {"-12.50", numVal("-12.5")}, {"1e3", numVal("1000")}, {"1E-300", numVal("1E-300")}, {"0", numVal("0")}, {"-0", numVal("0")}, {"007", numVal("7")}, {"1E-999", numVal("0")},
	{"1234567890123456", numVal("1234567890123460")},
	{"TRUE", yes}, {"true", yes}, {"tRUe", yes}, {"FALSE", no}, {"false", no}, {"FaLsE", no},
	{" ", wordsVal(" ")}, {" 12", wordsVal(" 12")}, {"12 ", wordsVal("12 ")}, {"+1", wordsVal("+1")}, {"1.", wordsVal("1.")}, {".5", wordsVal(".5")}, {"1E999", wordsVal("1E999")}, {"1E00001", wordsVal("1E00001")}, {"50%", wordsVal("50%")}, {"1,5", wordsVal("1,5")},
	{" TRUE", wordsVal(" TRUE")}, {"TRUE ", wordsVal("TRUE ")}, {"TRUEFALSE", wordsVal("TRUEFALSE")}, {"yes", wordsVal("yes")}, {"t", wordsVal("t")},
	{"#n/a", wordsVal("#n/a")}, {"#Ref!", wordsVal("#Ref!")}, {"#N/A ", wordsVal("#N/A ")}, {" #N/A", wordsVal(" #N/A")}, {"#NAME!", wordsVal("#NAME!")}, {"#", wordsVal("#")},
	{"=1+2", wordsVal("=1+2")}, {"=", wordsVal("=")}, {"abc", wordsVal("abc")}, {`"`, wordsVal(`"`)}, {"~", wordsVal("~")}, {"a'b", wordsVal("a'b")}, {" '1", wordsVal(" '1")},
	{"'", wordsVal("")}, {"''", wordsVal("'")}, {"'''", wordsVal("''")}, {"'12", wordsVal("12")}, {"'TRUE", wordsVal("TRUE")}, {"'#N/A", wordsVal("#N/A")}, {"'=x", wordsVal("=x")}, {"' 1", wordsVal(" 1")}, {"'a'", wordsVal("a'")},
	{"\x1f", notThis}, {"\x7f", notThis}, {"12\n", notThis}, {"\t", notThis}, {"'\x1f", notThis}, {"'\x7f", notThis}, {"a\x00b", notThis}, {"\xff", notThis}, {"'\u00e9", notThis}, {"TRU\u00c9", notThis},
}

func TestTypedValue(t *testing.T) {
	for _, c := range knownTyped {
		wantValue(t, "TypedValue", c.text, impl.TypedValue(c.text), c.want)
	}
	for _, text := range errorTexts {
		wantValue(t, "TypedValue", text, impl.TypedValue(text), errVal(text))
	}
	for _, n := range []int{999, 1000} {
		wantValue(t, "TypedValue", n, impl.TypedValue(letters(n)), wordsVal(letters(n)))
		wantValue(t, "TypedValue", n, impl.TypedValue("'"+letters(n)), wordsVal(letters(n)))
	}
	for _, n := range []int{1001, 1002, 100000} {
		wantValue(t, "TypedValue", n, impl.TypedValue(letters(n)), notThis)
		wantValue(t, "TypedValue", n, impl.TypedValue("'"+letters(n)), notThis)
		wantValue(t, "TypedValue", n, impl.TypedValue(strings.Repeat("1", n)), notThis)
	}
	digits := strings.Repeat("9", 100)
	wantValue(t, "TypedValue", digits, impl.TypedValue(digits), numVal("1E100"))
	wantValue(t, "TypedValue", digits+"9", impl.TypedValue(digits+"9"), wordsVal(digits+"9"))
}

func TestWhatIsShownIsTypedAgain(t *testing.T) {
	for _, v := range goodValues() {
		text := impl.ShowValue(v)
		if v.Kind == impl.ValText {
			text = "'" + text
		}
		wantValue(t, "TypedValue", text, impl.TypedValue(text), v)
	}
}
