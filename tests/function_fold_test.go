package tests

import (
	"slices"
	"strings"
	"testing"

	"loop.example/g00025/impl"
)

const top, bottom = "999999999999999E300", "-999999999999999E300"

func TestFolds(t *testing.T) {
	checkCalls(t, [][]string{
		{"SUM", "6", "1", "2", "3"}, {"SUM", "10", "1,2;3,4"}, {"SUM", "21", "1,2", "3;4", "5,6"}, {"SUM", "-1.5", "-1,-0.5"}, {"SUM", "0.3", "0.1,0.2"},
		{"SUM", "1", "1,a;TRUE,"}, {"SUM", "0", "'5"}, {"SUM", "0", "a"}, {"SUM", "0", ""}, {"SUM", "0", "TRUE"},
		{"SUM", "#N/A", "a,#N/A;#REF!,1"}, {"SUM", "#REF!", "1", "#REF!,2", "#N/A"}, {"SUM", "#N/A", "#N/A", "a"},
		// Each step is put: the small ones are lost one by one, and not together.
		{"SUM", "1E15", "1E15,4,4"}, {"SUM", "1000000000000010", "4,4,1E15"},
		{"SUM", top, top}, {"SUM", "#NUM!", top + "," + top}, {"SUM", "#NUM!", top + "," + top + "," + bottom}, {"SUM", top, top + "," + bottom + "," + top},
		{"PRODUCT", "24", "2,3;4,a"}, {"PRODUCT", "-6", "2", "-3"}, {"PRODUCT", "5", "5"}, {"PRODUCT", "0", "a"}, {"PRODUCT", "0", ""}, {"PRODUCT", "0", "TRUE,'2"}, {"PRODUCT", "0", "0,5"},
		{"PRODUCT", "#NUM!", "1E200,1E200,1E-200"}, {"PRODUCT", "0", "1E-200,1E-200,1E200"}, {"PRODUCT", "1E200", "1E-200,1E200,1E200"}, {"PRODUCT", "#DIV/0!", "1,#DIV/0!", "#N/A"}, {"PRODUCT", "#DIV/0!", "#DIV/0!"},
		{"PRODUCT", "0.999999999999999", "0.333333333333333,3"},
		{"MIN", "-2", "3,-2;1,a"}, {"MIN", "0", "a"}, {"MIN", "0", ""}, {"MIN", "2", "2,TRUE,,'1"}, {"MIN", "#NUM!", "1,#NUM!"}, {"MIN", bottom, top, bottom}, {"MIN", "5", "5"}, {"MIN", "0.5", "7", "0.5", "1"},
		{"MAX", "3", "3,-2;1,a"}, {"MAX", "0", "a"}, {"MAX", "0", "TRUE"}, {"MAX", "-2", "-2,,-3,'9"}, {"MAX", "#NUM!", "1,#NUM!"}, {"MAX", top, bottom, top}, {"MAX", "-5", "-5"},
		{"AVERAGE", "2", "1,3"}, {"AVERAGE", "0.333333333333333", "1,0,0"}, {"AVERAGE", "4", "4,a,,TRUE"}, {"AVERAGE", "#DIV/0!", "a"}, {"AVERAGE", "#DIV/0!", ""}, {"AVERAGE", "#N/A", "#N/A"}, {"AVERAGE", "#NUM!", top, top}, {"AVERAGE", "7", "7"},
		{"MEDIAN", "2", "3,1,2"}, {"MEDIAN", "2.5", "4,1", "3,2"}, {"MEDIAN", "5", "5"}, {"MEDIAN", "1.5", "2,1"}, {"MEDIAN", "#NUM!", "a"}, {"MEDIAN", "#NUM!", ""}, {"MEDIAN", "#REF!", "a,#REF!"}, {"MEDIAN", "#NUM!", top, top}, {"MEDIAN", top, top, top, "0"}, {"MEDIAN", "0", bottom, top}, {"MEDIAN", "-1", "-1,a,-1,TRUE,0"},
		{"SUMSQ", "25", "3,4"}, {"SUMSQ", "25", "-3,a;4,TRUE"}, {"SUMSQ", "0", "a"}, {"SUMSQ", "#NUM!", "1E200"}, {"SUMSQ", "#NUM!", "1E200", "1"}, {"SUMSQ", "#N/A", "1,#N/A"}, {"SUMSQ", "0", "1E-200"},
		{"VAR", "2", "1,3"}, {"VAR", "4", "1,3,5"}, {"VAR", "0", "7,7,7"}, {"VAR", "#DIV/0!", "1"}, {"VAR", "#DIV/0!", "a"}, {"VAR", "#DIV/0!", "1,a,TRUE"}, {"VAR", "#N/A", "#N/A"}, {"VAR", "#N/A", "1,2,#N/A"}, {"VAR", "#NUM!", top, top}, {"VAR", "#NUM!", "1E200,-1E200"}, {"VAR", "0.5", "2,1"},
		{"VAR", "0.333333333333334", "1,0,0"},
		{"STDEV", "2", "1,3,5"}, {"STDEV", "0.707106781186548", "1,2"}, {"STDEV", "0", "7,7"}, {"STDEV", "#DIV/0!", "1"}, {"STDEV", "#DIV/0!", ""}, {"STDEV", "#N/A", "1,#N/A"}, {"STDEV", "#NUM!", top, top},
		{"COUNT", "3", "1,a;TRUE,2", "#N/A", "3"}, {"COUNT", "0", ""}, {"COUNT", "0", "'1"}, {"COUNT", "0", "#N/A"}, {"COUNT", "1", "0"},
		{"COUNTA", "5", "1,a;TRUE,#N/A", "", "'"}, {"COUNTA", "0", ","}, {"COUNTA", "1", "#REF!"},
		{"COUNTBLANK", "3", ",';1,a", "#N/A", ""}, {"COUNTBLANK", "0", "0,FALSE,' "}, {"COUNTBLANK", "0", "#N/A"},
	})
}

func TestTruths(t *testing.T) {
	checkCalls(t, [][]string{
		{"AND", "TRUE", "TRUE,1;-0.5,a"}, {"AND", "FALSE", "TRUE,0"}, {"AND", "FALSE", "TRUE", "FALSE", "1"}, {"AND", "#VALUE!", "a,"}, {"AND", "#VALUE!", "'TRUE"}, {"AND", "TRUE", "'FALSE,1"}, {"AND", "TRUE", ",1"}, {"AND", "#N/A", "FALSE,#N/A"}, {"AND", "#N/A", "a,#N/A"},
		{"OR", "TRUE", "FALSE,1"}, {"OR", "FALSE", "FALSE,0,'TRUE"}, {"OR", "#VALUE!", ""}, {"OR", "TRUE", "0", "TRUE"}, {"OR", "#REF!", "TRUE,#REF!", "#N/A"}, {"OR", "FALSE", "0"}, {"OR", "#VALUE!", "a", "b"},
		{"XOR", "TRUE", "1,1,1"}, {"XOR", "FALSE", "1,TRUE"}, {"XOR", "TRUE", "0,FALSE,2"}, {"XOR", "FALSE", "0"}, {"XOR", "#VALUE!", "a"}, {"XOR", "#N/A", "TRUE", "#N/A"}, {"XOR", "TRUE", "TRUE,'TRUE,"},
	})
}

func TestJoins(t *testing.T) {
	checkCalls(t, [][]string{
		{"CONCAT", "a1TRUE", "a", "1", "TRUE"}, {"CONCAT", "a0.5", "a,0.5", ""}, {"CONCAT", "abcd", "a,b;c,d"}, {"CONCAT", "'12", "1,2"}, {"CONCAT", "'", ""}, {"CONCAT", "'", "'"}, {"CONCAT", "1E+20x", "1E20,x"}, {"CONCAT", "#N/A", "a,#N/A", "#REF!"},
		{"TEXTJOIN", "a-b", "-", "TRUE", "a,,b"}, {"TEXTJOIN", "a--b", "-", "FALSE", "a,,b"}, {"TEXTJOIN", "a-b", "-", "1", "'", "a", "b", "'"}, {"TEXTJOIN", "-a-b-", "-", "0", "'", "a", "b", "'"}, {"TEXTJOIN", "ab", "", "TRUE", "a;b"}, {"TEXTJOIN", "'112", "1", "TRUE", "1", "2"},
		{"TEXTJOIN", "'", "-", "TRUE", ",", "'"}, {"TEXTJOIN", "--", "-", "FALSE", ",", "'"}, {"TEXTJOIN", "'", "-", "FALSE", ""}, {"TEXTJOIN", "aTRUEb", "TRUE", "true", "a,b"}, {"TEXTJOIN", "a--b", "-", "", "a,,b"},
		// Of the first two the first cell counts alone.
		{"TEXTJOIN", "a-b", "-,#N/A", "TRUE,#N/A", "a,,b"}, {"TEXTJOIN", "#VALUE!", "-", "x", "a"}, {"TEXTJOIN", "#VALUE!", "-", "x", "#N/A"}, {"TEXTJOIN", "#NUM!", "#NUM!", "x", "#N/A"}, {"TEXTJOIN", "#REF!", "-", "#REF!", "#N/A"}, {"TEXTJOIN", "#N/A", "-", "TRUE", "a,#N/A;#REF!,b"},
	})
}

// TestLongTexts has texts of 1000 bytes and one beyond, and errors behind and ahead.
func TestLongTexts(t *testing.T) {
	text := func(n int) impl.Value { return wordsVal(letters(n)) }
	row := func(cells ...impl.Value) impl.Grid { return impl.Grid{Rows: 1, Cols: len(cells), Cells: cells} }
	for _, c := range []struct {
		want  impl.Value
		cells []impl.Value
	}{
		{text(1000), []impl.Value{text(1000)}}, {text(1000), []impl.Value{text(999), text(1)}}, {text(1000), []impl.Value{text(1000), empty, text(0)}},
		{notThis, []impl.Value{text(1000), text(1)}}, {notThis, []impl.Value{text(1), text(1000)}}, {notThis, []impl.Value{text(1000), text(1000)}}, {notThis, []impl.Value{text(1000), text(0), numVal("1")}},
		{notThis, []impl.Value{text(1000), text(1), noCell}}, {noCell, []impl.Value{text(1000), noCell, text(1)}}, {noCell, []impl.Value{text(1000), text(0), noCell}}, {notThis, []impl.Value{text(600), text(600), noCell, text(1)}}, {noCell, []impl.Value{noCell, text(600), text(600)}},
	} {
		wantSingle(t, "CONCAT", c.cells, impl.CallFunction("CONCAT", []impl.Grid{row(c.cells...)}), c.want)
		wantSingle(t, "TEXTJOIN", c.cells, impl.CallFunction("TEXTJOIN", []impl.Grid{row(empty), row(no), row(c.cells...)}), c.want)
		var apart []impl.Grid
		for _, v := range c.cells {
			apart = append(apart, row(v))
		}
		wantSingle(t, "CONCAT", c.cells, impl.CallFunction("CONCAT", apart), c.want)
	}
	for _, c := range []struct {
		between impl.Value
		noEmpty impl.Value
		cells   []impl.Value
		want    impl.Value
	}{
		{text(998), no, []impl.Value{text(1), text(1)}, text(1000)}, {text(999), no, []impl.Value{text(1), text(1)}, notThis}, {text(1000), no, []impl.Value{empty, empty}, text(1000)}, {text(1000), no, []impl.Value{empty, empty, empty}, notThis},
		{text(1000), yes, []impl.Value{empty, text(7), empty}, text(7)}, {text(1000), yes, []impl.Value{text(1), text(1), noCell}, notThis}, {text(1000), yes, []impl.Value{text(1), noCell}, noCell}, {text(1000), no, []impl.Value{text(1), empty, noCell}, notThis}, {text(1000), yes, []impl.Value{text(1), empty, noCell}, noCell},
	} {
		wantSingle(t, "TEXTJOIN", c, impl.CallFunction("TEXTJOIN", []impl.Grid{row(c.between), row(c.noEmpty), row(c.cells...)}), c.want)
	}
}

// TestErrorsAheadOfSteps: cells are gone through ahead of what is reckoned of them.
func TestErrorsAheadOfSteps(t *testing.T) {
	for _, name := range strings.Fields("SUM PRODUCT AVERAGE MEDIAN SUMSQ VAR STDEV MIN MAX") {
		wantGrid(t, name, "great numbers", called(name, top, top, "#REF!", "#N/A"), gridOf("#REF!"))
	}
}

func TestFoldsOfManyCells(t *testing.T) {
	full := slices.Repeat([]impl.Grid{fullGrid(2000, 1, numVal("1"))}, 30)
	for name, want := range map[string]string{"SUM": "60000", "COUNT": "60000", "COUNTA": "60000", "COUNTBLANK": "0", "PRODUCT": "1", "AVERAGE": "1", "MEDIAN": "1", "SUMSQ": "60000", "VAR": "0", "STDEV": "0", "MIN": "1", "MAX": "1"} {
		wantSingle(t, name, "30 times 2000 cells", impl.CallFunction(name, full), numVal(want))
	}
	full[29] = fullGrid(1, 2000, numVal("1"))
	full[29].Cells[1999] = noCell
	wantSingle(t, "SUM", "an error in the last cell", impl.CallFunction("SUM", full), noCell)
}

var criteria = []struct {
	from impl.Value
	op   string
	by   impl.Value
}{
	{empty, "=", empty}, {numVal("5"), "=", numVal("5")}, {yes, "=", yes}, {no, "=", no}, {noCell, "=", noCell}, {numVal("-0.5"), "=", numVal("-0.5")},
	{wordsVal(""), "=", empty}, {wordsVal("5"), "=", numVal("5")}, {wordsVal("a"), "=", wordsVal("a")}, {wordsVal("true"), "=", yes}, {wordsVal("#N/A"), "=", noCell}, {wordsVal("#n/a"), "=", wordsVal("#n/a")}, {wordsVal("'5"), "=", wordsVal("5")}, {wordsVal(" 5"), "=", wordsVal(" 5")}, {wordsVal("-5"), "=", numVal("-5")}, {wordsVal("+5"), "=", wordsVal("+5")},
	{wordsVal("="), "=", empty}, {wordsVal("<>"), "<>", empty}, {wordsVal("<="), "<=", empty}, {wordsVal(">="), ">=", empty}, {wordsVal("<"), "<", empty}, {wordsVal(">"), ">", empty},
	{wordsVal("=5"), "=", numVal("5")}, {wordsVal("<>5"), "<>", numVal("5")}, {wordsVal("<=5"), "<=", numVal("5")}, {wordsVal(">=5"), ">=", numVal("5")}, {wordsVal("<5"), "<", numVal("5")}, {wordsVal(">5"), ">", numVal("5")},
	{wordsVal("=a"), "=", wordsVal("a")}, {wordsVal("<>FALSE"), "<>", no}, {wordsVal(">=#REF!"), ">=", errVal("#REF!")}, {wordsVal("<'5"), "<", wordsVal("5")}, {wordsVal("> 5"), ">", wordsVal(" 5")}, {wordsVal("=-1e2"), "=", numVal("-100")},
	{wordsVal("=="), "=", wordsVal("=")}, {wordsVal("=>5"), "=", wordsVal(">5")}, {wordsVal("><5"), ">", wordsVal("<5")}, {wordsVal("<<5"), "<", wordsVal("<5")}, {wordsVal(">>"), ">", wordsVal(">")}, {wordsVal("<>="), "<>", wordsVal("=")}, {wordsVal("<=>1"), "<=", wordsVal(">1")}, {wordsVal("=<1"), "=", wordsVal("<1")},
	{wordsVal(" =5"), "=", wordsVal(" =5")}, {wordsVal("'=5"), "=", wordsVal("=5")}, {wordsVal("&5"), "=", wordsVal("&5")}, {wordsVal("*"), "=", wordsVal("*")}, {wordsVal("5="), "=", wordsVal("5=")},
	{wordsVal(letters(1000)), "=", wordsVal(letters(1000))}, {wordsVal("<>" + letters(998)), "<>", wordsVal(letters(998))},
}

func TestCriterion(t *testing.T) {
	for _, c := range criteria {
		if op, by := impl.Criterion(c.from); op != c.op || by != c.by {
			t.Errorf("Criterion(%v) = %s, %v, want %s, %v", c.from, op, by, c.op, c.by)
		}
	}
	for _, v := range noValues() {
		if op, by := impl.Criterion(v); op != "" || by != empty {
			t.Errorf("Criterion(%v) = %s, %v", v, op, by)
		}
	}
	for _, v := range goodValues() {
		op, by := impl.Criterion(v)
		if v.Kind != impl.ValText && (op != "=" || by != v) {
			t.Errorf("Criterion(%v) = %s, %v", v, op, by)
		}
	}
}

// The six signs stand for the orders in which they hold.
var sixSigns = []string{"=", "<>", "<", ">", "<=", ">="}

// TestMeets has pairs of all kinds; of each the signs that are met.
func TestMeets(t *testing.T) {
	const none = ""
	for _, c := range []struct {
		v, by impl.Value
		want  string
	}{
		{numVal("1"), numVal("1"), "= <= >="}, {numVal("1"), numVal("2"), "<> < <="}, {numVal("2"), numVal("1"), "<> > >="}, {numVal("0"), numVal("-1"), "<> > >="},
		{wordsVal("a"), wordsVal("A"), "= <= >="}, {wordsVal("a"), wordsVal("B"), "<> < <="}, {wordsVal("b"), wordsVal("A"), "<> > >="}, {wordsVal(""), wordsVal("a"), "<> < <="},
		{yes, yes, "= <= >="}, {no, yes, "<> < <="}, {yes, no, "<> > >="}, {no, no, "= <= >="},
		{empty, empty, "= <= >="}, {empty, wordsVal(""), "= <= >="}, {wordsVal(""), empty, "= <= >="}, {empty, wordsVal("a"), "<> < <="}, {wordsVal("a"), empty, "<> > >="},
		{empty, numVal("0"), "<>"}, {numVal("0"), empty, "<>"}, {empty, no, "<>"}, {no, empty, "<>"}, {empty, numVal("-1"), "<>"},
		{numVal("1"), wordsVal("1"), "<>"}, {wordsVal("1"), numVal("1"), "<>"}, {numVal("1"), yes, "<>"}, {yes, numVal("1"), "<>"}, {wordsVal("TRUE"), yes, "<>"}, {yes, wordsVal("TRUE"), "<>"}, {numVal("1"), wordsVal("a"), "<>"}, {wordsVal("a"), numVal("3"), "<>"},
		{noCell, noCell, "="}, {noCell, notThis, "<>"}, {notThis, noCell, "<>"},
		{noCell, numVal("1"), none}, {noCell, wordsVal("#N/A"), none}, {noCell, empty, none}, {noCell, yes, none},
		{numVal("1"), noCell, "<>"}, {wordsVal("#N/A"), noCell, "<>"}, {empty, noCell, "<>"}, {no, noCell, "<>"},
	} {
		for _, op := range sixSigns {
			if got, want := impl.Meets(c.v, op, c.by), slices.Contains(strings.Fields(c.want), op); got != want {
				t.Errorf("Meets(%v, %s, %v) = %v", c.v, op, c.by, got)
			}
		}
	}
}

func TestMeetsNothing(t *testing.T) {
	for _, op := range append([]string{"+", "-", "*", "/", "^", "&"}, noOperators...) {
		for _, v := range goodValues() {
			if impl.Meets(v, op, v) || impl.Meets(v, op, noCell) || impl.Meets(empty, op, v) {
				t.Errorf("%v is met by %q", v, op)
			}
		}
	}
	for _, v := range noValues() {
		for _, op := range sixSigns {
			if impl.Meets(v, op, v) || impl.Meets(v, op, numVal("1")) || impl.Meets(numVal("1"), op, v) || impl.Meets(noCell, op, v) || impl.Meets(v, op, noCell) {
				t.Errorf("%v is met by %s", v, op)
			}
		}
	}
}

func TestConditions(t *testing.T) {
	checkCalls(t, [][]string{
		{"COUNTIF", "2", "1;5;7", ">3"}, {"COUNTIF", "1", "1,5;7,5.5", "5"}, {"COUNTIF", "2", "a,A,b,", "a"}, {"COUNTIF", "2", "1,2,'1,TRUE,1", "1"}, {"COUNTIF", "2", ",',0,a,FALSE", ""}, {"COUNTIF", "3", ",',0,a,FALSE", "<>"}, {"COUNTIF", "0", "1,2", "a"}, {"COUNTIF", "1", "TRUE,1,'TRUE", "TRUE"},
		{"COUNTIF", "1", "#N/A,#REF!,1,", "'#N/A"}, {"COUNTIF", "3", "#N/A,#REF!,1,", "<>#N/A"}, {"COUNTIF", "2", "#N/A,1,2", "<>5"}, {"COUNTIF", "0", "#N/A,#N/A", "1"}, {"COUNTIF", "1", "#N/A,5", ">=5,#REF!"},
		{"COUNTIF", "#REF!", "#N/A,5", "#REF!"}, {"COUNTIF", "#REF!", "#N/A,5", "#REF!,5"},
		{"SUMIF", "12", "1;5;7", ">3"}, {"SUMIF", "30", "a;b;A", "a", "10;15;20"}, {"SUMIF", "0", "1,2", ">5"}, {"SUMIF", "20", "1,2;3,4", ">=3", "10,x;20,TRUE"}, {"SUMIF", "0", "a,b", "<>"},
		{"SUMIF", "#VALUE!", "1,2", "1", "1;2"}, {"SUMIF", "#VALUE!", "1,2", "1", "1"}, {"SUMIF", "#VALUE!", "1", "1", "1,2"}, {"SUMIF", "#VALUE!", "1,2;3,4", "1", "1,2,3,4"}, {"SUMIF", "#VALUE!", "1,2", "1", "#N/A,1,2"}, {"SUMIF", "#VALUE!", "1,#N/A", "1", "#N/A"},
		{"SUMIF", "#N/A", "1,2,1", "1", "5,5,#N/A"}, {"SUMIF", "10", "1,2,1", "1", "5,#N/A,5"}, {"SUMIF", "1", "1,#N/A", "1"}, {"SUMIF", "#REF!", "1,#REF!,#N/A", "'#REF!"}, {"SUMIF", "#NUM!", "1", "#NUM!", "#N/A"}, {"SUMIF", "#NUM!", "1", "#NUM!", "1,2"}, {"SUMIF", "#NUM!", "1,1", "1", top + "," + top},
		{"AVERAGEIF", "6", "1;5;7", ">3"}, {"AVERAGEIF", "15", "a;b;A", "a", "10;0;20"}, {"AVERAGEIF", "#DIV/0!", "1,2", ">5"}, {"AVERAGEIF", "#DIV/0!", "1,2", "1", "a,2"}, {"AVERAGEIF", "#VALUE!", "1,2", "1", "1;2"}, {"AVERAGEIF", "#N/A", "1,2", "2", "1,#N/A"}, {"AVERAGEIF", "#REF!", "1", "#REF!"}, {"AVERAGEIF", "0.666666666666667", "1,1,1", "1", "1,1,0"},
	})
}

func TestMoney(t *testing.T) {
	checkCalls(t, [][]string{
		{"NPV", "20", "0", "10,10"}, {"NPV", "10", "0.1", "11"}, {"NPV", "20", "0.1", "11", "a", "12.1"}, {"NPV", "20", "0.1", "11,;TRUE,12.1"}, {"NPV", "0", "0.1", "a"}, {"NPV", "0", "-1", ""}, {"NPV", "-5", "'1", "-10"}, {"NPV", "10", "", "10"}, {"NPV", "5", "TRUE", "10"},
		{"NPV", "#DIV/0!", "-1", "1"}, {"NPV", "#DIV/0!", "-1", "0"}, {"NPV", "#VALUE!", "x", "#N/A"}, {"NPV", "#REF!", "#REF!", "#N/A"}, {"NPV", "#N/A", "1", "1,#N/A;#REF!,1"}, {"NPV", "#N/A", "-1", "1,#N/A"}, {"NPV", "10", "0,#N/A", "10"}, {"NPV", "#NUM!", "1E200", "1,1"},
		{"NPV", "-4", "-1.5", "2,0"}, {"NPV", "16", "-0.5", "2,3"},
		{"FV", "-30", "0", "3", "10"}, {"FV", "-21", "0.1", "2", "10"}, {"FV", "21", "0.1", "2", "-10"}, {"FV", "-10", "0.1", "1", "10"}, {"FV", "-21", "'0.1", "2.9", "10,#N/A"}, {"FV", "0", "0.1", "2", ""}, {"FV", "-10", "-1", "3", "10"}, {"FV", "-1000", "0", "1000", "1"}, {"FV", "0", "-2", "2", "5"},
		{"FV", "#NUM!", "0", "0", "10"}, {"FV", "#NUM!", "0", "1001", "10"}, {"FV", "#NUM!", "0", "-1", "10"}, {"FV", "#NUM!", "0", "0.9", "10"}, {"FV", "#NUM!", "0", "1E20", "10"}, {"FV", "#NUM!", "1", "1E20", "x"}, {"FV", "#VALUE!", "x", "1E20", "10"}, {"FV", "#VALUE!", "1", "0", "x"}, {"FV", "#N/A", "1", "0", "#N/A"}, {"FV", "#VALUE!", "1", "x", "#N/A"}, {"FV", "#NUM!", "1E10", "1000", "1"}, {"FV", "#NUM!", "0", "2", top},
		{"PMT", "-5", "0", "2", "10"}, {"PMT", "-11", "0.1", "1", "10"}, {"PMT", "-1.33333333333333", "1", "2", "1"}, {"PMT", "11", "0.1", "1", "-10"}, {"PMT", "-0.001", "0", "1000", "1"}, {"PMT", "0", "0.1", "5", ""},
		{"PMT", "#NUM!", "0", "0", "10"}, {"PMT", "#NUM!", "0", "1001", "10"}, {"PMT", "#DIV/0!", "-1", "2", "10"}, {"PMT", "#DIV/0!", "-1", "2", "0"}, {"PMT", "#DIV/0!", "1E-20", "2", "1"}, {"PMT", "#DIV/0!", "-2", "2", "1"}, {"PMT", "#VALUE!", "0", "x", "#N/A"}, {"PMT", "#VALUE!", "0", "0", "x"}, {"PMT", "#REF!", "#REF!", "0", "x"},
		// Of two errors on the way the left one is told.
		{"PMT", "#NUM!", "-1E10", "2", top}, {"PMT", "#NUM!", "10", "1000", top}, {"PMT", "#NUM!", "1E200", "2", "1"},
	})
}

// TestManyTerms: a power beyond 1000 is none.
func TestManyTerms(t *testing.T) {
	args := []impl.Grid{gridOf("0"), fullGrid(1000, 1, numVal("1"))}
	wantSingle(t, "NPV", "1000 numbers", impl.CallFunction("NPV", args), numVal("1000"))
	wantSingle(t, "NPV", "1001 numbers", impl.CallFunction("NPV", append(args, gridOf("a,1"))), noNumber)
	wantSingle(t, "NPV", "1000 numbers and texts", impl.CallFunction("NPV", append(args, fullGrid(1, 2000, wordsVal("1")))), numVal("1000"))
}

func TestRanks(t *testing.T) {
	checkCalls(t, [][]string{
		{"LARGE", "5", "1;5;7", "2"}, {"LARGE", "7", "1;5;7", "1"}, {"LARGE", "1", "1;5;7", "3"}, {"LARGE", "7", "7,a;7,1", "2"}, {"LARGE", "1", "7,'9;TRUE,1", "2"}, {"LARGE", "#NUM!", "1;5;7", "4"}, {"LARGE", "#NUM!", "1;5;7", "0"}, {"LARGE", "#NUM!", "1;5;7", "-1"}, {"LARGE", "#NUM!", "1;5;7", "0.9"}, {"LARGE", "7", "1;5;7", "1.9"}, {"LARGE", "7", "1;5;7", "TRUE,x"}, {"LARGE", "#NUM!", "a", "1"}, {"LARGE", "#NUM!", "1", "1E20"}, {"LARGE", "#VALUE!", "1", "x"}, {"LARGE", "#N/A", "1,#N/A;#REF!,1", "x"}, {"LARGE", "#N/A", "1,#N/A;#REF!,1", "9"}, {"LARGE", "#REF!", "1", "#REF!"},
		{"SMALL", "5", "7;5;1", "2"}, {"SMALL", "1", "7;5;1", "1"}, {"SMALL", "7", "7;5;1", "3"}, {"SMALL", "-1", "-1,-1;0,2", "2"}, {"SMALL", "0", "-1,-1;0,2", "'3"}, {"SMALL", "#NUM!", "7;5;1", "4"}, {"SMALL", "#NUM!", "7;5;1", "0"}, {"SMALL", "#NUM!", "", "1"}, {"SMALL", "#N/A", "#N/A", "1"},
		{"RANK", "2", "5", "1;5;7"}, {"RANK", "1", "7", "1;5;7"}, {"RANK", "3", "1", "1;5;7"}, {"RANK", "1", "1", "1;5;7", "TRUE"}, {"RANK", "3", "7", "1;5;7", "1"}, {"RANK", "2", "5", "1;5;7", "FALSE"}, {"RANK", "2", "5", "7,5;5,a"}, {"RANK", "1", "5", "7,5;5,a", "TRUE"}, {"RANK", "3", "7", "7,5;5,a", "TRUE"}, {"RANK", "1", "5.0", "5"}, {"RANK", "1", "'5", "5,'9"}, {"RANK", "1", "TRUE", "1"}, {"RANK", "2", "", "0,1"},
		{"RANK", "#N/A", "6", "1;5;7"}, {"RANK", "#N/A", "6", "a"}, {"RANK", "#N/A", "6", "'6"}, {"RANK", "#VALUE!", "x", "#N/A"}, {"RANK", "#REF!", "5", "5,#REF!;#N/A,1"}, {"RANK", "#REF!", "6", "5,#REF!;#N/A,1", "x"}, {"RANK", "#VALUE!", "6", "5", "x"}, {"RANK", "#NULL!", "6", "5", "#NULL!"}, {"RANK", "1", "5,#N/A", "5", "FALSE,#N/A"},
	})
}
