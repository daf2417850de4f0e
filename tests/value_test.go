package tests

import (
	"slices"
	"strings"
	"testing"

	"loop.example/g00025/impl"
)

var operators = slices.Concat(levels...)

var noOperators = []string{"", " ", "%", "==", "=<", "=>", "><", "**", "^^", "&&", "!", "+ ", " +", "+-", "<=>", "-=", "A", "SUM", "<>=", "\x00", "+\x00", "\xff", strings.Repeat("+", 1000)}

var empty = impl.Value{}

var yes, no = truthVal("TRUE"), truthVal("FALSE")

// numVal is the number that a text says.
func numVal(text string) impl.Value {
	r := impl.ReadDec(text)
	if !r.Ok {
		panic(text + " is no number")
	}
	return impl.Value{Kind: impl.ValNum, Num: r.Dec}
}

func wordsVal(text string) impl.Value { return impl.Value{Kind: impl.ValText, Text: text} }

func truthVal(text string) impl.Value { return impl.Value{Kind: impl.ValBool, Text: text} }

func errVal(text string) impl.Value { return impl.Value{Kind: impl.ValErr, Text: text} }

func letters(n int) string { return strings.Repeat("x", n) }

// allBytes is a text of every byte that may be in one.
func allBytes() string {
	out := ""
	for b := 32; b <= 126; b++ {
		out += string(rune(b))
	}
	return out
}

// goodValues: of each kind, with its edges.
func goodValues() []impl.Value {
	out := []impl.Value{empty, yes, no}
	for _, text := range []string{"0", "1", "-1", "0.5", "-0.5", "2", "10", "999999999999999E300", "-999999999999999E300", "1E-300", "-1E-300"} {
		out = append(out, numVal(text))
	}
	for _, text := range []string{"", " ", "~", "a", "A", "abc", "TRUE", "false", "12", " 12 ", "#N/A", "'", `"`, allBytes(), letters(999), letters(1000), strings.Repeat(" ", 1000), strings.Repeat("~", 1000)} {
		out = append(out, wordsVal(text))
	}
	for _, text := range errorTexts {
		out = append(out, errVal(text))
	}
	return out
}

// noValues: values that are not good, from those of a kind that is none to those that have too much.
func noValues() []impl.Value {
	one := impl.Dec{Digits: 1}
	out := []impl.Value{
		{Kind: impl.ValEmpty, Num: one}, {Kind: impl.ValEmpty, Text: "x"}, {Kind: impl.ValEmpty, Text: " "}, {Kind: impl.ValEmpty, Text: "TRUE"}, {Kind: impl.ValEmpty, Text: "#N/A"},
		{Kind: impl.ValNum, Text: "1"}, {Kind: impl.ValNum, Num: one, Text: "1"}, {Kind: impl.ValNum, Num: one, Text: " "},
		{Kind: impl.ValText, Num: one}, {Kind: impl.ValText, Num: one, Text: "1"},
		{Kind: impl.ValBool, Num: one, Text: "TRUE"}, {Kind: impl.ValErr, Num: one, Text: "#N/A"},
	}
	for _, kind := range append([]int{5, 6, 9, 256, 257, 1 << 32}, farNumbers...) {
		out = append(out, impl.Value{Kind: kind}, impl.Value{Kind: kind, Num: one}, impl.Value{Kind: kind, Text: "TRUE"}, impl.Value{Kind: kind, Text: "#N/A"})
	}
	for _, d := range badDecs() {
		for kind := impl.ValEmpty; kind <= impl.ValErr; kind++ {
			out = append(out, impl.Value{Kind: kind, Num: d})
		}
		out = append(out, impl.Value{Kind: impl.ValText, Num: d, Text: "x"}, impl.Value{Kind: impl.ValBool, Num: d, Text: "TRUE"}, impl.Value{Kind: impl.ValErr, Num: d, Text: "#REF!"})
	}
	for _, bad := range []string{"\x00", "\x1f", "\x7f", "\x80", "\xff", "\n", "\t", "\u00e9"} {
		for _, text := range []string{bad, bad + "a", "a" + bad, "a" + bad + "a", letters(998) + bad} {
			out = append(out, wordsVal(text))
		}
	}
	for _, n := range []int{1001, 1002, 2000, 100000} {
		out = append(out, wordsVal(letters(n)), wordsVal(strings.Repeat(" ", n)), wordsVal(strings.Repeat(" ", n-2)+"12"))
	}
	for _, text := range []string{"", "true", "True", "FALSe", " TRUE", "TRUE ", "1", "T", "#N/A", "TRUEFALSE"} {
		out = append(out, truthVal(text))
	}
	for _, text := range []string{"", "#", "#n/a", "#N/A ", " #N/A", "#N/A!", "#NAME", "#NAME!", "#DIV/0", "#VALUE", "N/A", "#OTHER!", "TRUE", "#REF!#REF!"} {
		out = append(out, errVal(text))
	}
	return out
}

func TestConstantsOfValues(t *testing.T) {
	got := []int{impl.MaxGrid, impl.ValEmpty, impl.ValNum, impl.ValText, impl.ValBool, impl.ValErr}
	if want := []int{2000, 0, 1, 2, 3, 4}; !slices.Equal(got, want) {
		t.Errorf("%v, want %v", got, want)
	}
}

func TestGoodValue(t *testing.T) {
	for _, v := range goodValues() {
		if !impl.GoodValue(v) {
			t.Errorf("GoodValue(%v) = false", v)
		}
	}
	for _, v := range noValues() {
		if impl.GoodValue(v) {
			t.Errorf("GoodValue(%v) = true", v)
		}
	}
}

func TestBytesOfTexts(t *testing.T) {
	for b := range 256 {
		v := wordsVal("a" + string([]byte{byte(b)}) + "a")
		if got, want := impl.GoodValue(v), b >= 32 && b <= 126; got != want {
			t.Errorf("byte %d: %v", b, got)
		}
	}
}

// fullGrid has the same value in all cells.
func fullGrid(rows, cols int, v impl.Value) impl.Grid {
	return impl.Grid{Rows: rows, Cols: cols, Cells: slices.Repeat([]impl.Value{v}, rows*cols)}
}

// noGrids: grids that are not good.
func noGrids() []impl.Grid {
	one := numVal("1")
	out := []impl.Grid{{}, {Rows: 1, Cols: 1}, {Rows: 1}, {Cols: 1}, {Cells: []impl.Value{one}}}
	for _, g := range []impl.Grid{fullGrid(1, 2001, one), fullGrid(2001, 1, one), fullGrid(3, 667, one), fullGrid(667, 3, one), fullGrid(45, 45, one), fullGrid(2, 1001, one)} {
		out = append(out, g)
	}
	for _, n := range append([]int{0, -2}, farNumbers...) {
		for _, cells := range [][]impl.Value{nil, {one}, {one, one}} {
			out = append(out, impl.Grid{Rows: n, Cols: 1, Cells: cells}, impl.Grid{Rows: 1, Cols: n, Cells: cells}, impl.Grid{Rows: n, Cols: n, Cells: cells})
		}
	}
	// Sides below 0, and great ones, whose product as an int is as many as there are cells.
	two := []impl.Value{one, one}
	out = append(out,
		impl.Grid{Rows: -1, Cols: -2, Cells: two}, impl.Grid{Rows: -2, Cols: -1, Cells: two},
		impl.Grid{Rows: 1 << 32, Cols: 1 << 32}, impl.Grid{Rows: 1 << 62, Cols: 4}, impl.Grid{Rows: 4, Cols: 1 << 62},
		impl.Grid{Rows: 3, Cols: 6148914691236517206, Cells: two}, impl.Grid{Rows: 6148914691236517206, Cols: 3, Cells: two})
	for _, cells := range []int{0, 1, 5, 7, 2000} {
		out = append(out, impl.Grid{Rows: 2, Cols: 3, Cells: slices.Repeat([]impl.Value{one}, cells)})
	}
	for _, v := range noValues() {
		out = append(out, fullGrid(1, 1, v))
	}
	for at := range 6 {
		g := fullGrid(2, 3, one)
		g.Cells[at] = impl.Value{Kind: 9}
		out = append(out, g)
	}
	last := fullGrid(1, 2000, one)
	last.Cells[1999] = truthVal("true")
	return append(out, last)
}

func TestGoodGrid(t *testing.T) {
	for _, sides := range [][2]int{{1, 1}, {1, 2}, {2, 1}, {2, 3}, {1, 2000}, {2000, 1}, {40, 50}, {50, 40}, {44, 45}, {3, 666}, {2, 1000}, {1000, 2}} {
		for _, v := range goodValues() {
			if !impl.GoodGrid(fullGrid(sides[0], sides[1], v)) {
				t.Errorf("no good grid of %v with %v", sides, v)
			}
		}
	}
	if all := goodValues(); !impl.GoodGrid(impl.Grid{Rows: len(all), Cols: 1, Cells: all}) {
		t.Error("no good grid of all kinds")
	}
	for _, g := range noGrids() {
		if impl.GoodGrid(g) {
			t.Errorf("GoodGrid of %d times %d with %d cells", g.Rows, g.Cols, len(g.Cells))
		}
	}
}

var notThis = errVal("#VALUE!")

// knownTurnings: values as numbers, as texts and as bools.
var knownTurnings = []struct{ from, number, text, truth impl.Value }{
	{empty, numVal("0"), wordsVal(""), no},
	{numVal("0"), numVal("0"), wordsVal("0"), no},
	{numVal("1"), numVal("1"), wordsVal("1"), yes},
	{numVal("-1"), numVal("-1"), wordsVal("-1"), yes},
	{numVal("0.05"), numVal("0.05"), wordsVal("0.05"), yes},
	{numVal("1E-300"), numVal("1E-300"), wordsVal("1E-300"), yes},
	{numVal("-123456789012345E300"), numVal("-123456789012345E300"), wordsVal("-1.23456789012345E+314"), yes},
	{numVal("999999999999999"), numVal("999999999999999"), wordsVal("999999999999999"), yes},
	{yes, numVal("1"), wordsVal("TRUE"), yes},
	{no, numVal("0"), wordsVal("FALSE"), no},
	{wordsVal(""), notThis, wordsVal(""), notThis},
	{wordsVal(" "), notThis, wordsVal(" "), notThis},
	{wordsVal("abc"), notThis, wordsVal("abc"), notThis},
	{wordsVal("TRUE"), notThis, wordsVal("TRUE"), yes},
	{wordsVal("true"), notThis, wordsVal("true"), yes},
	{wordsVal("tRuE"), notThis, wordsVal("tRuE"), yes},
	{wordsVal("FALSE"), notThis, wordsVal("FALSE"), no},
	{wordsVal("fAlSe"), notThis, wordsVal("fAlSe"), no},
	{wordsVal(" TRUE"), notThis, wordsVal(" TRUE"), notThis},
	{wordsVal("FALSE "), notThis, wordsVal("FALSE "), notThis},
	{wordsVal("TRUE1"), notThis, wordsVal("TRUE1"), notThis},
	{wordsVal("12"), numVal("12"), wordsVal("12"), notThis},
	{wordsVal("0"), numVal("0"), wordsVal("0"), notThis},
	{wordsVal("1"), numVal("1"), wordsVal("1"), notThis},
	{wordsVal("  12.50 "), numVal("12.5"), wordsVal("  12.50 "), notThis},
	{wordsVal(" -1e3"), numVal("-1000"), wordsVal(" -1e3"), notThis},
	{wordsVal("1E+2   "), numVal("100"), wordsVal("1E+2   "), notThis},
	{wordsVal("-0"), numVal("0"), wordsVal("-0"), notThis},
	{wordsVal("007"), numVal("7"), wordsVal("007"), notThis},
	{wordsVal("- 1"), notThis, wordsVal("- 1"), notThis},
	{wordsVal("1 2"), notThis, wordsVal("1 2"), notThis},
	{wordsVal("+1"), notThis, wordsVal("+1"), notThis},
	{wordsVal("1."), notThis, wordsVal("1."), notThis},
	{wordsVal(".5"), notThis, wordsVal(".5"), notThis},
	{wordsVal("50%"), notThis, wordsVal("50%"), notThis},
	{wordsVal("'12"), notThis, wordsVal("'12"), notThis},
	{wordsVal("1E999"), notThis, wordsVal("1E999"), notThis},
	{wordsVal("1E-999"), numVal("0"), wordsVal("1E-999"), notThis},
	{wordsVal("1E00001"), notThis, wordsVal("1E00001"), notThis},
	{wordsVal("#N/A"), notThis, wordsVal("#N/A"), notThis},
}

func wantValue(t *testing.T, what string, from any, got, want impl.Value) {
	t.Helper()
	if got != want {
		t.Errorf("%s of %v is %v, want %v", what, from, got, want)
	}
}

func checkTurnings(t *testing.T, from, number, text, truth impl.Value) {
	t.Helper()
	wantValue(t, "NumberOf", from, impl.NumberOf(from), number)
	wantValue(t, "TextOf", from, impl.TextOf(from), text)
	wantValue(t, "BoolOf", from, impl.BoolOf(from), truth)
	if got := impl.ShowValue(from); got != text.Text {
		t.Errorf("ShowValue(%v) = %q, want %q", from, got, text.Text)
	}
}

func TestTurnedIntoOthers(t *testing.T) {
	for _, c := range knownTurnings {
		checkTurnings(t, c.from, c.number, c.text, c.truth)
	}
	for _, text := range errorTexts {
		v := errVal(text)
		checkTurnings(t, v, v, v, v)
	}
}

func TestLongTextsAsNumbers(t *testing.T) {
	digits := strings.Repeat("9", 100)
	// ReadDec takes 100 bytes; the blanks around them count for nothing.
	for _, c := range []struct {
		text string
		want impl.Value
	}{
		{digits, numVal("1E100")},
		{" " + digits + " ", numVal("1E100")},
		{strings.Repeat(" ", 450) + digits + strings.Repeat(" ", 450), numVal("1E100")},
		{digits + "9", notThis},
		{strings.Repeat(" ", 999) + "7", numVal("7")},
		{"7" + strings.Repeat(" ", 999), numVal("7")},
		{strings.Repeat(" ", 1000), notThis},
		{"7" + strings.Repeat(" ", 1000), notThis},
	} {
		wantValue(t, "NumberOf", c.text, impl.NumberOf(wordsVal(c.text)), c.want)
	}
}

func TestValuesThatAreNotGood(t *testing.T) {
	for _, v := range noValues() {
		wantValue(t, "NumberOf", v, impl.NumberOf(v), notThis)
		wantValue(t, "TextOf", v, impl.TextOf(v), notThis)
		wantValue(t, "BoolOf", v, impl.BoolOf(v), notThis)
		if got := impl.ShowValue(v); got != "" {
			t.Errorf("ShowValue(%v) = %q, want nothing", v, got)
		}
		for _, w := range append(goodValues(), v) {
			for _, pair := range [][2]impl.Value{{v, w}, {w, v}} {
				if got := impl.Compare(pair[0], pair[1]); got != 2 {
					t.Errorf("Compare(%v) = %d, want 2", pair, got)
				}
				for _, sign := range operators {
					wantValue(t, sign, pair, impl.Apply(sign, pair[0], pair[1]), notThis)
				}
			}
		}
	}
}

// inOrder: values that rise; those in one row are the same.
var inOrder = [][]impl.Value{
	{numVal("-999999999999999E300")}, {numVal("-10")}, {numVal("-9")}, {numVal("-1E-300")},
	{numVal("0")}, {numVal("1E-300")}, {numVal("0.1")}, {numVal("9")}, {numVal("10")}, {numVal("999999999999999E300")},
	{wordsVal("")}, {wordsVal(" ")}, {wordsVal("  ")}, {wordsVal("!")}, {wordsVal("#N/A"), wordsVal("#n/a")}, {wordsVal("-1")}, {wordsVal("0")}, {wordsVal("10")}, {wordsVal("9")},
	{wordsVal("@")}, {wordsVal("a"), wordsVal("A")}, {wordsVal("A ")}, {wordsVal("aa"), wordsVal("AA"), wordsVal("aA")}, {wordsVal("ab")}, {wordsVal("B"), wordsVal("b")},
	{wordsVal("false"), wordsVal("FALSE")}, {wordsVal("true"), wordsVal("TRUE")}, {wordsVal("Z"), wordsVal("z")},
	{wordsVal("[")}, {wordsVal("_")}, {wordsVal("`")}, {wordsVal("{")}, {wordsVal("~")},
	{no}, {yes},
}

func TestCompare(t *testing.T) {
	for i, some := range inOrder {
		for j, others := range inOrder {
			want := 0
			switch {
			case i < j:
				want = -1
			case i > j:
				want = 1
			}
			for _, a := range some {
				for _, b := range others {
					checkOrder(t, a, b, want)
				}
			}
		}
	}
}

// checkOrder holds Compare, and the six operators that go by it, against what is wanted.
func checkOrder(t *testing.T, a, b impl.Value, want int) {
	t.Helper()
	if got := impl.Compare(a, b); got != want {
		t.Errorf("Compare(%v, %v) = %d, want %d", a, b, got, want)
	}
	holds := map[string]bool{"=": want == 0, "<>": want != 0, "<": want < 0, ">": want > 0, "<=": want <= 0, ">=": want >= 0}
	for sign, is := range holds {
		truth := no
		if is {
			truth = yes
		}
		wantValue(t, sign, []impl.Value{a, b}, impl.Apply(sign, a, b), truth)
	}
}

func TestCompareOfEmptyOnes(t *testing.T) {
	for _, c := range []struct {
		beside impl.Value
		want   int
	}{
		{empty, 0},
		{numVal("0"), 0}, {numVal("1"), -1}, {numVal("-1"), 1}, {numVal("1E-300"), -1}, {numVal("-1E-300"), 1},
		{wordsVal(""), 0}, {wordsVal(" "), -1}, {wordsVal("a"), -1}, {wordsVal("0"), -1}, {wordsVal("-1"), -1}, {wordsVal("FALSE"), -1},
		{no, 0}, {yes, -1},
	} {
		checkOrder(t, empty, c.beside, c.want)
		checkOrder(t, c.beside, empty, -c.want)
	}
}

func TestCompareOfErrors(t *testing.T) {
	for _, text := range errorTexts {
		for _, v := range append(goodValues(), noValues()...) {
			if a, b := impl.Compare(errVal(text), v), impl.Compare(v, errVal(text)); a != 2 || b != 2 {
				t.Errorf("Compare of %s and %v = %d, %d", text, v, a, b)
			}
		}
	}
}
