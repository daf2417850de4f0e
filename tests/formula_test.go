package tests

import (
	"math"
	"slices"
	"strconv"
	"strings"
	"testing"

	"loop.example/g00025/impl"
)

var errorTexts = []string{"#NULL!", "#DIV/0!", "#VALUE!", "#REF!", "#NAME?", "#NUM!", "#N/A", "#SPILL!", "#CYCLE!"}

// levels: the operators of two sides, from the farthest on.
var levels = [][]string{{"=", "<", ">", "<=", ">=", "<>"}, {"&"}, {"+", "-"}, {"*", "/"}, {"^"}}

type nodes = []impl.Node

func one(n impl.Node) nodes { return nodes{n} }

func num(digits int) nodes { return numExp(digits, 0) }

func numExp(digits, exp int) nodes {
	return one(impl.Node{Kind: impl.NodNum, Num: impl.Dec{Digits: digits, Exp: exp}})
}

func words(text string) nodes { return one(impl.Node{Kind: impl.NodText, Text: text}) }

func truth(text string) nodes { return one(impl.Node{Kind: impl.NodBool, Text: text}) }

func wrong(text string) nodes { return one(impl.Node{Kind: impl.NodErr, Text: text}) }

func refTo(r impl.Ref) nodes { return one(impl.Node{Kind: impl.NodRef, From: r}) }

func areaOf(from, to impl.Ref) nodes { return one(impl.Node{Kind: impl.NodArea, From: from, To: to}) }

func name(text string) nodes { return one(impl.Node{Kind: impl.NodName, Text: text}) }

func nothing() nodes { return one(impl.Node{Kind: impl.NodNothing}) }

func over(n impl.Node, kids ...nodes) nodes {
	n.Kids = len(kids)
	return append(nodes{n}, slices.Concat(kids...)...)
}

func minus(kid nodes) nodes { return over(impl.Node{Kind: impl.NodMinus}, kid) }

func percent(kid nodes) nodes { return over(impl.Node{Kind: impl.NodPercent}, kid) }

func op(sign string, left, right nodes) nodes {
	return over(impl.Node{Kind: impl.NodOp, Text: sign}, left, right)
}

func call(name string, args ...nodes) nodes {
	return over(impl.Node{Kind: impl.NodCall, Text: name}, args...)
}

func array(rows int, values ...nodes) nodes {
	return over(impl.Node{Kind: impl.NodArray, Text: strconv.Itoa(rows)}, values...)
}

// many: the same list so many times.
func many(kid nodes, times int) []nodes {
	var out []nodes
	for range times {
		out = append(out, kid)
	}
	return out
}

// wantNodes asks that a text is read as these nodes, and told as another one, or itself.
func wantNodes(t *testing.T, text string, want nodes, told string) {
	t.Helper()
	got := impl.ReadFormula(text)
	if got.Err != 0 || got.At != 0 || !slices.Equal(got.Nodes, want) {
		t.Errorf("ReadFormula(%q) = %v, want %v", text, got, want)
	}
	if !impl.GoodFormula(want) {
		t.Errorf("GoodFormula(%v) = false", want)
	}
	if s := impl.FormulaText(want); s != told {
		t.Errorf("FormulaText(%v) = %q, want %q", want, s, told)
	}
}

func wantFault(t *testing.T, text string, err, at int) {
	t.Helper()
	if got := impl.ReadFormula(text); got.Err != err || got.At != at || got.Nodes != nil {
		t.Errorf("ReadFormula(%q) = %v, want %d at %d", text, got, err, at)
	}
}

func wantFaultBy(t *testing.T, text string, row, col, err, at int) {
	t.Helper()
	if got := impl.ReadFormulaBy(text, row, col); got.Err != err || got.At != at || got.Nodes != nil {
		t.Errorf("ReadFormulaBy(%q, %d, %d) = %v, want %d at %d", text, row, col, got, err, at)
	}
}

func wantNoFormula(t *testing.T, f nodes) {
	t.Helper()
	if impl.GoodFormula(f) {
		t.Errorf("GoodFormula(%v) = true", f)
	}
	if s := impl.FormulaText(f); s != "" {
		t.Errorf("FormulaText(%v) = %q, want none", f, s)
	}
	if s := impl.FormulaTextBy(f, 5, 5); s != "" {
		t.Errorf("FormulaTextBy(%v, 5, 5) = %q, want none", f, s)
	}
	if a := impl.UsedAreas(f); len(a) != 0 {
		t.Errorf("UsedAreas(%v) = %v, want none", f, a)
	}
	if n := impl.UsedNames(f); len(n) != 0 {
		t.Errorf("UsedNames(%v) = %v, want none", f, n)
	}
}

var (
	fix11 = impl.Ref{Row: 1, Col: 1, RowFix: true, ColFix: true}
	fix33 = impl.Ref{Row: 3, Col: 3, RowFix: true, ColFix: true}
)

// knownFormulas: a text, the nodes that it is read as, and the text in which these are told.
var knownFormulas = []struct {
	text  string
	nodes nodes
	told  string
}{
	{"=1", num(1), "=1"},
	{"=0", num(0), "=0"},
	{"=12.5", numExp(125, -1), "=12.5"},
	{`="a b"`, words("a b"), `="a b"`},
	{`=""`, words(""), `=""`},
	{"=true", truth("TRUE"), "=TRUE"},
	{"=False", truth("FALSE"), "=FALSE"},
	{"=#Div/0!", wrong("#DIV/0!"), "=#DIV/0!"},
	{"=b2", refTo(cell(2, 2)), "=B2"},
	{"=$gr$1000", refTo(impl.Ref{Row: 1000, Col: 200, RowFix: true, ColFix: true}), "=$GR$1000"},
	{"=$A$1:C3", areaOf(fix11, cell(3, 3)), "=$A$1:C3"},
	{"=c3:a1", areaOf(cell(3, 3), cell(1, 1)), "=C3:A1"},
	{"=B2:B2", areaOf(cell(2, 2), cell(2, 2)), "=B2:B2"},
	{"=Tax", name("Tax"), "=Tax"},
	{"=_", name("_"), "=_"},
	{"=-1", minus(num(1)), "=-1"},
	{"=--1", minus(minus(num(1))), "=--1"},
	{"=5%", percent(num(5)), "=5%"},
	{"=5%%%", percent(percent(percent(num(5)))), "=5%%%"},
	{"=-5%", minus(percent(num(5))), "=-5%"},
	{"=(-5)%", percent(minus(num(5))), "=(-5)%"},
	{"=-(5%)", minus(percent(num(5))), "=-5%"},
	{"=(5%)%", percent(percent(num(5))), "=5%%"},
	{"=-(-5)", minus(minus(num(5))), "=--5"},
	{"=-(-(-5))%", minus(percent(minus(minus(num(5))))), "=-(--5)%"},
	{"=-2^2", op("^", minus(num(2)), num(2)), "=-2^2"},
	{"=(-2)^2", op("^", minus(num(2)), num(2)), "=-2^2"},
	{"=-(2^2)", minus(op("^", num(2), num(2))), "=-(2^2)"},
	{"=2^-2", op("^", num(2), minus(num(2))), "=2^-2"},
	{"=2^-2^2", op("^", op("^", num(2), minus(num(2))), num(2)), "=2^-2^2"},
	{"=2%^2%", op("^", percent(num(2)), percent(num(2))), "=2%^2%"},
	{"=(2^2)%", percent(op("^", num(2), num(2))), "=(2^2)%"},
	{"=(1+2)%", percent(op("+", num(1), num(2))), "=(1+2)%"},
	{"=-(1*2)", minus(op("*", num(1), num(2))), "=-(1*2)"},
	{"=1--2", op("-", num(1), minus(num(2))), "=1--2"},
	{"=1*-2%", op("*", num(1), minus(percent(num(2)))), "=1*-2%"},
	{"=(-1)*2", op("*", minus(num(1)), num(2)), "=-1*2"},
	{"=1+2*3", op("+", num(1), op("*", num(2), num(3))), "=1+2*3"},
	{"=(1+2)*3", op("*", op("+", num(1), num(2)), num(3)), "=(1+2)*3"},
	{"=1-2-3", op("-", op("-", num(1), num(2)), num(3)), "=1-2-3"},
	{"=1-(2-3)", op("-", num(1), op("-", num(2), num(3))), "=1-(2-3)"},
	{"=1+(2-3)", op("+", num(1), op("-", num(2), num(3))), "=1+(2-3)"},
	{"=2^3^4", op("^", op("^", num(2), num(3)), num(4)), "=2^3^4"},
	{"=2^(3^4)", op("^", num(2), op("^", num(3), num(4))), "=2^(3^4)"},
	{"=1<2=3", op("=", op("<", num(1), num(2)), num(3)), "=1<2=3"},
	{"=1<(2=3)", op("<", num(1), op("=", num(2), num(3))), "=1<(2=3)"},
	{"=1<=2", op("<=", num(1), num(2)), "=1<=2"},
	{"=1>=2", op(">=", num(1), num(2)), "=1>=2"},
	{"=1<>2", op("<>", num(1), num(2)), "=1<>2"},
	{"=1&2+3", op("&", num(1), op("+", num(2), num(3))), "=1&2+3"},
	{"=(1&2)+3", op("+", op("&", num(1), num(2)), num(3)), "=(1&2)+3"},
	{"=1&2=3&4", op("=", op("&", num(1), num(2)), op("&", num(3), num(4))), "=1&2=3&4"},
	{"=1&(2=3)", op("&", num(1), op("=", num(2), num(3))), "=1&(2=3)"},
	{"=((((1))))", num(1), "=1"},
	{"=f()", call("F"), "=F()"},
	{"=f( )", call("F"), "=F()"},
	{"=Sum(1)", call("SUM", num(1)), "=SUM(1)"},
	{"=sum(a1,,3)", call("SUM", refTo(cell(1, 1)), nothing(), num(3)), "=SUM(A1,,3)"},
	{"=f(,)", call("F", nothing(), nothing()), "=F(,)"},
	{"=f(,,)", call("F", nothing(), nothing(), nothing()), "=F(,,)"},
	{"=f(1,)", call("F", num(1), nothing()), "=F(1,)"},
	{"=f( , 1 )", call("F", nothing(), num(1)), "=F(,1)"},
	{"=f((1),(2=3))", call("F", num(1), op("=", num(2), num(3))), "=F(1,2=3)"},
	{"=f(g(x),x)%", percent(call("F", call("G", name("x")), name("x"))), "=F(G(x),x)%"},
	{"=log10(1)", call("LOG10", num(1)), "=LOG10(1)"},
	{"=f (1)", call("F", num(1)), "=F(1)"},
	{"={1}", array(1, num(1)), "={1}"},
	{"={1,2;3,4}", array(2, num(1), num(2), num(3), num(4)), "={1,2;3,4}"},
	{"={1;2;3}", array(3, num(1), num(2), num(3)), "={1;2;3}"},
	{`={-1,"a";true,#n/a}`, array(2, minus(num(1)), words("a"), truth("TRUE"), wrong("#N/A")), `={-1,"a";TRUE,#N/A}`},
	{"={ - 1 ; False }%", percent(array(2, minus(num(1)), truth("FALSE"))), "={-1;FALSE}%"},
	{"=-{1,2}", minus(array(1, num(1), num(2))), "=-{1,2}"},
	{"=#N/A/#n/a", op("/", wrong("#N/A"), wrong("#N/A")), "=#N/A/#N/A"},
	{`="say ""hi"""`, words(`say "hi"`), `="say ""hi"""`},
	{`=""""`, words(`"`), `=""""`},
	{`=""&""""`, op("&", words(""), words(`"`)), `=""&""""`},
}

func TestConstantsOfFormulas(t *testing.T) {
	limits := []int{impl.MaxFormula, impl.MaxNodes, impl.MaxArgs, impl.MaxDeep}
	if want := []int{2000, 300, 30, 40}; !slices.Equal(limits, want) {
		t.Errorf("the limits are %v, want %v", limits, want)
	}
	kinds := []int{impl.NodNum, impl.NodText, impl.NodBool, impl.NodErr, impl.NodRef, impl.NodArea, impl.NodName, impl.NodMinus, impl.NodPercent, impl.NodOp, impl.NodCall, impl.NodArray, impl.NodNothing}
	for i, kind := range kinds {
		if kind != i+1 {
			t.Errorf("kind %d is %d", i+1, kind)
		}
	}
}

func TestKnownFormulas(t *testing.T) {
	for _, c := range knownFormulas {
		wantNodes(t, c.text, c.nodes, c.told)
		wantNodes(t, c.told, c.nodes, c.told)
	}
}

func TestEveryPairOfOperators(t *testing.T) {
	a, b, c := num(1), name("x"), refTo(cell(1, 1))
	for lower, some := range levels {
		for _, p := range some {
			wantNodes(t, "=1"+p+"x", op(p, a, b), "=1"+p+"x")
			for higher, others := range levels {
				for _, q := range others {
					text := "=1" + p + "x" + q + "A1"
					left, right := op(q, op(p, a, b), c), op(p, a, op(q, b, c))
					if higher > lower {
						wantNodes(t, text, right, text)
						wantNodes(t, "=(1"+p+"x)"+q+"A1", left, "=(1"+p+"x)"+q+"A1")
					} else {
						wantNodes(t, text, left, text)
						wantNodes(t, "=1"+p+"(x"+q+"A1)", right, "=1"+p+"(x"+q+"A1)")
					}
				}
			}
		}
	}
}

func TestSignsAndOperators(t *testing.T) {
	a, b := num(1), num(2)
	for _, level := range levels {
		for _, p := range level {
			wantNodes(t, "=-1"+p+"-2", op(p, minus(a), minus(b)), "=-1"+p+"-2")
			wantNodes(t, "=1%"+p+"2%", op(p, percent(a), percent(b)), "=1%"+p+"2%")
			wantNodes(t, "=-(1"+p+"2)", minus(op(p, a, b)), "=-(1"+p+"2)")
			wantNodes(t, "=(1"+p+"2)%", percent(op(p, a, b)), "=(1"+p+"2)%")
			wantNodes(t, "=(-1)"+p+"(-2)", op(p, minus(a), minus(b)), "=-1"+p+"-2")
		}
	}
}

func TestNumbersInFormulas(t *testing.T) {
	good := []struct {
		text string
		num  nodes
		told string
	}{
		{"007", num(7), "7"},
		{"1.50", numExp(15, -1), "1.5"},
		{"0.0", num(0), "0"},
		{"100", numExp(1, 2), "100"},
		{"1E5", numExp(1, 5), "100000"},
		{"1e5", numExp(1, 5), "100000"},
		{"1E+20", numExp(1, 20), "1E+20"},
		{"1.5e-7", numExp(15, -8), "1.5E-7"},
		{"2E0003", numExp(2, 3), "2000"},
		{"1E300", numExp(1, 300), "1E+300"},
		{"1E-9999", num(0), "0"},
		{"123456789012345678", numExp(123456789012346, 3), "1.23456789012346E+17"},
		{strings.Repeat("0", 99) + "1", num(1), "1"},
	}
	for _, c := range good {
		wantNodes(t, "="+c.text, c.num, "="+c.told)
		wantNodes(t, "=-"+c.text+"%", minus(percent(c.num)), "=-"+c.told+"%")
		wantNodes(t, "={-"+c.text+","+c.text+"}", array(1, minus(c.num), c.num), "={-"+c.told+","+c.told+"}")
	}
	bad := []struct {
		text string
		at   int
	}{
		{"1.", 1}, {"1..5", 1}, {"1.5.5", 3}, {"1.E5", 1}, {"1E", 1}, {"1E+", 1}, {"1E+-5", 1}, {"1E.5", 1}, {"1E5.5", 3}, {"1E5E5", 3},
		{"1Ex", 1}, {"1x", 1}, {"1_", 1}, {"1$", 1}, {"1:2", 1}, {"1E +5", 1}, {"1 .5", 2}, {"1. 5", 1}, {"1 2", 2}, {"1 E5", 2},
		{".5", 0}, {"+5", 0},
		{"1E12345", 0}, {"1E00000", 0}, {"1E-12345", 0}, {"1E301", 0}, {"1E400", 0}, {"1E9999", 0}, {"2.5E00001+", 0},
		{strings.Repeat("0", 101), 0}, {"1." + strings.Repeat("0", 99), 0},
	}
	for _, c := range bad {
		wantFault(t, "="+c.text, 2, 1+c.at)
		wantFault(t, "=x* "+c.text, 2, 4+c.at)
		wantFault(t, "={"+c.text+"}", 2, 2+c.at)
		wantFault(t, "={1;- "+c.text+"}", 2, 6+c.at)
	}
}

func TestGreatNumbersInFormulas(t *testing.T) {
	great := numExp(999999999999999, 300)
	wantNodes(t, "=9.99999999999999E+314", great, "=9.99999999999999E+314")
	wantNodes(t, "=9.99999999999999E314", great, "=9.99999999999999E+314")
	wantFault(t, "=9.99999999999999E+315", 2, 1)
	wantNodes(t, "=1E-300", numExp(1, -300), "=1E-300")
	wantNodes(t, "=1E-301", num(0), "=0")
}

func TestTextsInFormulas(t *testing.T) {
	all := ""
	for b := 32; b <= 126; b++ {
		all += string(rune(b))
	}
	for _, s := range []string{"", " ", "a", `"`, `""`, `a"`, `"a`, `a"b"c`, "=1", "#N/A", "TRUE", all, strings.Repeat("x", 200), strings.Repeat(`"`, 200)} {
		text := `="` + strings.ReplaceAll(s, `"`, `""`) + `"`
		wantNodes(t, text, words(s), text)
		wantNodes(t, "={"+text[1:]+","+text[1:]+"}", array(1, words(s), words(s)), "={"+text[1:]+","+text[1:]+"}")
	}
	for _, s := range []string{`"`, `"a`, `"""`, `"a""`, `"a""""`, `"a""b`, `"` + strings.Repeat("x", 201) + `"`, `"` + strings.Repeat(`""`, 201) + `"`, "\"\x1f\"", "\"\x7f\"", "\"\n\"", "\"\x00\"", "\"\xff\"", `"ä"`, "\"a\x1f", "\"a\t\""} {
		wantFault(t, "="+s, 2, 1)
		wantFault(t, "=1+ "+s, 2, 4)
		wantFault(t, "=f(1,"+s, 2, 5)
		wantFault(t, "={1;"+s, 2, 4)
	}
	wantFault(t, `="a" "b"`, 2, 5)
	wantFault(t, `="a"b`, 2, 4)
	for _, s := range []string{strings.Repeat("x", 201), "\x1f", "\x7f", "a\n", "ä", "\xff"} {
		wantNoFormula(t, words(s))
	}
}

func TestErrorsInFormulas(t *testing.T) {
	for _, e := range errorTexts {
		wantNodes(t, "="+e, wrong(e), "="+e)
		wantNodes(t, "="+strings.ToLower(e), wrong(e), "="+e)
		wantNodes(t, "="+e[:3]+strings.ToLower(e[3:])+"%", percent(wrong(e)), "="+e+"%")
		wantNodes(t, "={"+strings.ToLower(e)+"}", array(1, wrong(e)), "={"+e+"}")
		for cut := 1; cut < len(e); cut++ {
			wantFault(t, "=1+"+e[:cut], 2, 3)
			wantFault(t, "={"+e[:cut]+"}", 2, 2)
			wantFault(t, "="+e[:cut]+" "+e[cut:], 2, 1)
			wantNoFormula(t, wrong(e[:cut]))
		}
		wantFault(t, "=1 "+e, 2, 3)
		wantFault(t, "="+e+"1", 2, 1+len(e))
		wantNoFormula(t, wrong(strings.ToLower(e)))
		wantNoFormula(t, wrong(e+" "))
	}
	for _, s := range []string{"#", "##", "#x", "#N", "#NA", "#REF", "#REF?", "#NAME!", "#ERR!", "#ſPILL!"} {
		wantFault(t, "="+s, 2, 1)
		wantNoFormula(t, wrong(s))
	}
	wantNoFormula(t, wrong(""))
}

var goodNames = []string{
	"a", "Z", "_", "__", "_1", "_.", "x1y", "Tax", "a.b", "a_b", "a..", "A1.", "A1_", "A1x", "A01", "A0", "A1001", "GS1", "ZZ1", "AAA1", "B", "AB", "GR",
	"TRUE1", "TRUE.", "_TRUE", "FALSE_", "TRU", "RR", "CC", "CR", "R1R", "R1C1R", "RC_", "R.", "C.", "R_1", "C1C", "C1R1", "RCC", "R1C1C1", "RC1A", "rx", "cx", "RA", "R1A",
	"LOG10", "abcdefghijklmnopqrst", "_2345678901234567890", "A1234567890.________",
}

var noNames = []string{
	"TRUE", "true", "False", "FALSE", "A1", "a1", "gr1000", "Z99", "AA10",
	"R", "r", "C", "c", "RC", "rc", "Rc", "R1", "R1C1", "r1c1", "RC1", "R1C", "C5", "R0", "C0", "R01", "R0C0", "R1001", "C1001", "R99999", "RC999", "R12345C67890", "R1C201", "R123456789012C345678",
}

func TestNamesInFormulas(t *testing.T) {
	for _, n := range goodNames {
		wantNodes(t, "="+n, name(n), "="+n)
		big := strings.ToUpper(n)
		wantNodes(t, "="+n+"(1)", call(big, num(1)), "="+big+"(1)")
		wantNodes(t, "="+n+"  ( 1 )", call(big, num(1)), "="+big+"(1)")
		wantFault(t, "="+n+" "+n, 2, 2+len(n))
		by := impl.ReadFormulaBy("="+n+"%", 5, 5)
		if by.Err != 0 || !slices.Equal(by.Nodes, percent(name(n))) {
			t.Errorf("ReadFormulaBy(%q) = %v", n, by)
		}
		if n != big {
			wantNoFormula(t, call(n))
		}
	}
	for _, n := range noNames {
		wantNoFormula(t, name(n))
		wantNoFormula(t, call(strings.ToUpper(n)))
		wantNoFormula(t, call(strings.ToUpper(n), num(1)))
	}
	for _, n := range []string{"", " ", "1", "1a", ".", ".a", "a b", "a-b", "$a", "a$", "a:b", "ä", "aä", "a\x00", "\x00", "[", "@", "`", "{", "a/", "abcdefghijklmnopqrstu", strings.Repeat("a", 2000)} {
		wantNoFormula(t, name(n))
		wantNoFormula(t, call(strings.ToUpper(n)))
	}
	for _, n := range []string{"abcdefghijklmnopqrstu", "A1.abcdefghijklmnopqr", strings.Repeat("_", 21), strings.Repeat("a", 1000)} {
		wantFault(t, "=1+"+n, 2, 3)
		wantFault(t, "=1+"+n+"(1)", 2, 3)
		wantFaultBy(t, "=1+"+n, 5, 5, 2, 3)
	}
}

func TestWhatIsNoName(t *testing.T) {
	for _, n := range noNames {
		first := impl.ReadFormula("=1+" + n)
		called := impl.ReadFormula("=1+" + n + "(2)")
		by := impl.ReadFormulaBy("=1+"+n, 5, 5)
		byCalled := impl.ReadFormulaBy("=1+"+n+"(2)", 5, 5)
		big := strings.ToUpper(n)
		_, inFirst := impl.ReadRef(big)
		_, inSecond := impl.ReadRefBy(big, 5, 5)
		truth := big == "TRUE" || big == "FALSE"
		if (first.Err == 0) != (inFirst || truth) || first.Err != 0 && first.At != 3 {
			t.Errorf("ReadFormula of 1+%s = %v", n, first)
		}
		if (by.Err == 0) != (inSecond || truth) || by.Err != 0 && by.At != 3 {
			t.Errorf("ReadFormulaBy of 1+%s = %v", n, by)
		}
		at := 3
		if truth {
			at += len(n)
		}
		if called.Err != 2 || called.At != at || byCalled.Err != 2 || byCalled.At != at {
			t.Errorf("1+%s(2) is read as %v and %v, want 2 at %d", n, called, byCalled, at)
		}
	}
}

func TestBlanks(t *testing.T) {
	f := op("+", percent(minus(call("F", num(1), nothing(), areaOf(fix11, cell(2, 2))))), array(2, num(1), minus(num(2)), truth("TRUE"), wrong("#N/A")))
	for _, b := range []string{"", " ", "   "} {
		parts := []string{"=", "(", "-", "f", "(", "1", ",", ",", "$A$1:B2", ")", ")", "%", "+", "{", "1", ",", "-", "2", ";", "true", ",", "#n/a", "}", ""}
		wantNodes(t, strings.Join(parts, b), f, "=(-F(1,,$A$1:B2))%+{1,-2;TRUE,#N/A}")
	}
	for _, c := range []struct {
		text string
		at   int
	}{
		{"=A 1", 3}, {"=A1 :B2", 4}, {"=A1: B2", 4}, {"=$ A1", 1}, {"=$A $1", 1}, {"=1< =2", 4}, {"=1< >2", 4}, {"=1> =2", 4}, {"=# N/A", 1}, {"=TR UE", 4}, {"=A1 (2)", 4}, {"=TRUE (2)", 6},
		{"=1\t", 2}, {"=\t1", 1}, {"=1\n", 2}, {"= \x001", 2}, {"=1 \x00", 3}, {"=1\u00a0", 2},
	} {
		wantFault(t, c.text, 2, c.at)
	}
}

func TestFaults(t *testing.T) {
	for _, text := range []string{"", " ", "1", " =1", "A1", "+1", "\x00", "'=1", strings.Repeat("x", 2001), "=" + strings.Repeat("1", 2000), "=1" + strings.Repeat(" ", 1999), "=" + strings.Repeat("(", 5000)} {
		wantFault(t, text, 1, 0)
		wantFaultBy(t, text, 1, 1, 1, 0)
	}
	for _, c := range []struct {
		text string
		at   int
	}{
		{"=", 1}, {"= ", 2}, {"=   ", 4}, {"==", 1}, {"==1", 1}, {"=+1", 1}, {"=1+", 3}, {"=1+ ", 4}, {"=-", 2}, {"=- ", 3}, {"=--", 3}, {"=%", 1}, {"=-%", 2}, {"=1%%+", 5}, {"=*1", 1}, {"=1**2", 3}, {"=1++2", 3}, {"=1^^2", 3},
		{"=1=<2", 3}, {"=1=>2", 3}, {"=1><2", 3}, {"=1<<2", 3}, {"=1<==2", 4}, {"=1<>=2", 4}, {"=1<=", 4}, {"=1<", 3}, {"=1==2", 3}, {"=1&&2", 3},
		{"=(", 2}, {"=()", 2}, {"=(1", 3}, {"=(1 ", 4}, {"=(1+)", 4}, {"=(1,2)", 3}, {"=((1)", 5}, {"=(1))", 4}, {"=1)", 2}, {"=)", 1}, {"=1(2)", 2}, {"=(1)(2)", 4}, {"=(1)2", 4}, {"=(1}", 3},
		{"=,", 1}, {"=1,2", 2}, {"=;", 1}, {"=:", 1}, {"=!", 1}, {"=[1]", 1}, {"=1]", 2}, {"=}", 1}, {"='a'", 1}, {"=@A1", 1}, {"=1!", 2}, {"=\\", 1}, {"=~1", 1}, {"=?", 1}, {"=|", 1}, {"=`", 1},
		{"=f(", 3}, {"=f( ", 4}, {"=f(1", 4}, {"=f(1,", 5}, {"=f(,", 4}, {"=f(1,2", 6}, {"=f(1 2)", 5}, {"=f(1;2)", 4}, {"=f(1}", 4}, {"=f(1))", 5}, {"=f(+)", 3}, {"=f(1,*)", 5}, {"=f(())", 4}, {"=f()()", 4}, {"=f(1)2", 5}, {"=f(1)x", 5}, {"=f(]", 3}, {"=f(1+,2)", 5}, {"=f(-,2)", 4},
		{"={", 2}, {"={ ", 3}, {"={}", 2}, {"={1", 3}, {"={1,", 4}, {"={1,}", 4}, {"={1;", 4}, {"={1;}", 4}, {"={,1}", 2}, {"={;1}", 2}, {"={1,,2}", 4}, {"={1 2}", 4}, {"={1)", 3}, {"={1}}", 4}, {"={1}{2}", 4}, {"={1}2", 4}, {"={(1)}", 2}, {"={{1}}", 2}, {"={1+2}", 3}, {"={1%}", 3}, {"={+1}", 2}, {"={1:2}", 3},
		{"={-", 3}, {"={- ", 4}, {"={-}", 3}, {"={--1}", 3}, {"={- -1}", 4}, {"={-x}", 3}, {"={-TRUE}", 3}, {`={-"a"}`, 3}, {"={-#N/A}", 3}, {"={ - A1}", 5},
		{"={A1}", 2}, {"={x}", 2}, {"={f(1)}", 2}, {"={1,TRUEX}", 4}, {"={TRUE.}", 2}, {"={TRUE_}", 2}, {"={_TRUE}", 2}, {"={TRUE1}", 2}, {"={TRUE$}", 6}, {"={TRUE(}", 6}, {"={$A1}", 2}, {"={.5}", 2}, {"={_}", 2}, {"={TRUE FALSE}", 7}, {"={#x}", 2},
		{"={1,2;3}", 1}, {"={1;2,3}", 1}, {"= {1,2;3", 2}, {"={1,2;3x", 1}, {"={1,2;3;4,5}", 1}, {"={1,2;3,4,5)", 1}, {"={1;2,3 4", 1}, {"={1,2;3,", 8}, {"={1;2,x}", 6}, {"={1;2,3,x}", 8}, {"={1,2;x}", 6}, {"={1,2;3,4;5,6", 13}, {"={1,2;3,4)", 9},
		{"=A1(2)", 1}, {"=1+A1(2)", 3}, {"=$A$1(2)", 1}, {"=A1:", 4}, {"=A1:1", 4}, {"=A1:x", 4}, {"=A1:B", 4}, {"=A1:B2x", 4}, {"=A1:B2_", 4}, {"=A1:B2.", 4}, {"=A1:B1001", 4}, {"=A1:TRUE", 4}, {"=A1:$", 4}, {"=A1::B2", 4}, {"=A1:B2:C3", 6}, {"=A1:B2(3)", 6}, {"=A1:B2 (3)", 7}, {"=A1:f(1)", 4}, {"=A1:R1C1", 4}, {"=A1B2:C3", 5}, {"=x:A1", 2}, {"=A1:-B2", 4},
		{"=$", 1}, {"=$$A1", 1}, {"=$x", 1}, {"=$1", 1}, {"=$A", 1}, {"=$A1_", 1}, {"=$A1.", 1}, {"=$A1001", 1}, {"=$TRUE", 1}, {"=A$1x", 2}, {"=A$", 2}, {"=A1$", 1}, {"=A$1$", 2}, {"=A$1_", 2}, {"=TRUE$1", 5}, {"=x$", 2}, {"=f$(1)", 2}, {"=A1$B2", 1}, {"=R$1C1", 1}, {"=1+R1C1", 3}, {"=R[1]C", 1}, {"=x[1]", 2}, {"=A1[1]", 3}, {"=R(1)", 1}, {"=C (1)", 1}, {"=TRUE(1)", 5}, {"=true()", 5},
		{"=A1 B2", 4}, {"=A1!B2", 3}, {"=A1,B2", 3}, {"=A1{1}", 3}, {`=A1"x"`, 3}, {"=ä", 1}, {"=aä", 2}, {"=A1\xff", 3}, {"=1\x00", 2}, {"=\x00", 1},
		{"=1 2 \"", 3}, {"=1 A1:x", 3}, {"=(1+2", 5}, {"=(1+ \"", 5}, {`=f("a`, 3}, {"=f(1E12345", 3},
	} {
		wantFault(t, c.text, 2, c.at)
	}
}

// filled: an array of so many rows, each with so many values.
func filled(rows, width int) (string, nodes) {
	row := strings.Repeat("1,", width)
	text := strings.Repeat(row[:len(row)-1]+";", rows)
	return "={" + text[:len(text)-1] + "}", array(rows, many(num(1), rows*width)...)
}

func TestSidesOfArrays(t *testing.T) {
	for rows := 1; rows <= 22; rows++ {
		for width := 1; width <= 102; width++ {
			text, f := filled(rows, width)
			if rows <= 20 && rows*width <= 100 {
				wantNodes(t, text, f, text)
				continue
			}
			if len(text) <= impl.MaxFormula {
				wantFault(t, text, 2, 1)
				// It is seen behind the last bracket alone.
				wantFault(t, text[:len(text)-1], 2, len(text)-1)
				wantFault(t, text[:len(text)-1]+")", 2, len(text)-1)
			}
			wantNoFormula(t, f)
		}
	}
	wide, _ := filled(1, 101)
	wantFault(t, "=1+ "+wide[1:]+"+", 2, 4)
	wantFault(t, wide[:len(wide)-1]+";1x", 2, 1)
}

func TestBadArrays(t *testing.T) {
	for _, rows := range []string{"", "0", "01", "+1", "-1", " 1", "1 ", "1.0", "1E0", "x", "00", "21", "100", "9223372036854775808"} {
		wantNoFormula(t, over(impl.Node{Kind: impl.NodArray, Text: rows}, many(num(1), 100)...))
		wantNoFormula(t, over(impl.Node{Kind: impl.NodArray, Text: rows}, num(1)))
	}
	for _, kids := range []int{1, 2, 4, 5, 7} {
		wantNoFormula(t, array(3, many(num(1), kids)...))
	}
	wantNoFormula(t, array(1))
	for _, kid := range []nodes{nothing(), name("x"), refTo(cell(1, 1)), areaOf(cell(1, 1), cell(1, 1)), percent(num(1)), op("+", num(1), num(2)), call("F"), array(1, num(1)), minus(minus(num(1))), minus(words("a")), minus(truth("TRUE")), minus(wrong("#N/A")), minus(name("x")), minus(percent(num(1)))} {
		wantNoFormula(t, array(1, kid))
		wantNoFormula(t, array(1, num(1), kid))
		wantNoFormula(t, array(2, kid, num(1)))
	}
	for _, kid := range []nodes{num(1), minus(num(1)), words("a"), truth("FALSE"), wrong("#N/A")} {
		if !impl.GoodFormula(array(1, num(1), kid)) {
			t.Errorf("an array of %v is none", kid)
		}
	}
}

func TestArguments(t *testing.T) {
	kinds := []struct {
		arg  string
		node nodes
	}{{"1", num(1)}, {"x", name("x")}, {"", nothing()}}
	for count := range impl.MaxArgs + 3 {
		for _, k := range kinds {
			f := call("F", many(k.node, count)...)
			text := "=F(" + strings.TrimSuffix(strings.Repeat(k.arg+",", count), ",") + ")"
			switch {
			case k.arg == "" && count == 1:
				wantNodes(t, text, call("F"), "=F()")
				wantNoFormula(t, f)
			case count <= impl.MaxArgs:
				wantNodes(t, text, f, text)
			default:
				wantFault(t, text, 3, 0)
				wantNoFormula(t, f)
			}
		}
	}
}

// nested: a number with so many of a kind around it.
func nested(kind string, times int) (string, nodes) {
	text, f := "1", num(1)
	for i := range times {
		switch kind {
		case "minus":
			text, f = "-"+text, minus(f)
		case "percent":
			text, f = text+"%", percent(f)
		case "left":
			text, f = text+"+1", op("+", f, num(1))
		case "right":
			if i > 0 {
				text = "(" + text + ")"
			}
			text, f = "1+"+text, op("+", num(1), f)
		case "call":
			text, f = "F("+text+")", call("F", f)
		case "second":
			text, f = "F(,"+text+")", call("F", nothing(), f)
		}
	}
	return "=" + text, f
}

func TestDeep(t *testing.T) {
	for _, kind := range []string{"minus", "percent", "left", "right", "call", "second"} {
		for times := 1; times <= 60; times++ {
			text, f := nested(kind, times)
			if times < impl.MaxDeep {
				wantNodes(t, text, f, text)
				continue
			}
			wantFault(t, text, 3, 0)
			wantNoFormula(t, f)
		}
	}
	for _, brackets := range []int{1, 40, 41, 999} {
		wantNodes(t, "="+strings.Repeat("(", brackets)+"1"+strings.Repeat(")", brackets), num(1), "=1")
	}
	wantFault(t, "="+strings.Repeat("(", 1999), 2, 2000)
	wantFault(t, "="+strings.Repeat("-", 1999), 2, 2000)
	wantFault(t, "="+strings.Repeat("-", 1998)+"1", 3, 0)
	wantFault(t, "=1"+strings.Repeat("%", 1998), 3, 0)
	wantFault(t, "=1"+strings.Repeat("+1", 999), 3, 0)
	wantFault(t, "="+strings.Repeat("F(", 999)+")", 2, 2000)
	// An array's numbers stand within it, and a minus ahead of them, too.
	_, deep := nested("minus", 37)
	inner := deep[:len(deep)-1]
	if !impl.GoodFormula(slices.Concat(inner, array(1, minus(num(1))))) || impl.GoodFormula(slices.Concat(minus(inner), array(1, minus(num(1))))) {
		t.Error("an array at the deepest places")
	}
	if got := impl.ReadFormula("=" + strings.Repeat("-", 38) + "{1,2}"); got.Err != 0 {
		t.Errorf("an array at the deepest place: %v", got)
	}
	wantFault(t, "="+strings.Repeat("-", 38)+"{1,-2}", 3, 0)
}

// broad: a formula of so many nodes, not deep.
func broad(total int) nodes {
	args := many(call("G", many(num(1), 30)...), 9)
	return call("F", append(args, many(num(2), total-280)...)...)
}

func TestManyNodes(t *testing.T) {
	f := broad(impl.MaxNodes)
	text := impl.FormulaText(f)
	if len(f) != impl.MaxNodes || text == "" {
		t.Fatalf("%d nodes are told as %q", len(f), text)
	}
	wantNodes(t, text, f, text)
	wantFault(t, strings.TrimSuffix(text, ")")+",2)", 3, 0)
	wantNoFormula(t, broad(impl.MaxNodes+1))
	wantFault(t, strings.TrimSuffix(text, ")")+",2", 2, len(text)+1)
}

func TestLongFormulas(t *testing.T) {
	wantNodes(t, "=1"+strings.Repeat(" ", impl.MaxFormula-2), num(1), "=1")
	wantFault(t, "="+strings.Repeat(" ", impl.MaxFormula-1), 2, impl.MaxFormula)
	// Nine long texts and a last one that makes it just as long as it may be.
	f := words(strings.Repeat("x", 200))
	for range 8 {
		f = op("&", f, words(strings.Repeat("x", 200)))
	}
	rest := impl.MaxFormula - len(impl.FormulaText(f)) - len(`&""`)
	full := op("&", f, words(strings.Repeat("y", rest)))
	text := impl.FormulaText(full)
	if len(text) != impl.MaxFormula {
		t.Fatalf("told in %d bytes", len(text))
	}
	wantNodes(t, text, full, text)
	more := op("&", f, words(strings.Repeat("y", rest+1)))
	if !impl.GoodFormula(more) || impl.FormulaText(more) != "" || impl.FormulaTextBy(more, 1, 1) != "" {
		t.Error("a formula beyond the bytes is told")
	}
	quotes := op("&", f, words(strings.Repeat("y", rest-1)+`"`))
	if !impl.GoodFormula(quotes) || impl.FormulaText(quotes) != "" {
		t.Error("a text told twice is beyond the bytes")
	}
	// What is told in one notation may be too long in the other one.
	var refs []nodes
	for range 6 {
		refs = append(refs, call("F", many(areaOf(cell(1, 1), cell(2, 2)), 20)...))
	}
	both := call("F", refs...)
	if impl.FormulaText(both) == "" || impl.FormulaTextBy(both, 500, 100) != "" || impl.FormulaTextBy(both, 1, 1) == "" {
		t.Error("long in one notation alone")
	}
}

func TestNoFormulas(t *testing.T) {
	wantNoFormula(t, nil)
	wantNoFormula(t, nodes{})
	wantNoFormula(t, nodes{{}})
	wantNoFormula(t, nothing())
	for _, kind := range []int{0, -1, 14, 100, math.MaxInt, math.MinInt} {
		wantNoFormula(t, nodes{{Kind: kind}})
		wantNoFormula(t, nodes{{Kind: kind, Text: "x"}})
		wantNoFormula(t, append(nodes{{Kind: kind, Kids: 1}}, num(1)...))
		wantNoFormula(t, minus(nodes{{Kind: kind}}))
	}
	for _, d := range []impl.Dec{{Neg: true, Digits: 1}, {Neg: true}, {Digits: 10}, {Digits: -1}, {Exp: 1}, {Digits: 1, Exp: 301}, {Digits: 1, Exp: -301}, {Digits: 1000000000000001}} {
		wantNoFormula(t, nodes{{Kind: impl.NodNum, Num: d}})
		wantNoFormula(t, array(1, nodes{{Kind: impl.NodNum, Num: d}}))
	}
	for _, s := range []string{"", "true", "False", "T", "TRUE ", "1", "TRUEFALSE"} {
		wantNoFormula(t, truth(s))
	}
	for _, r := range noRefs() {
		wantNoFormula(t, refTo(r))
		wantNoFormula(t, areaOf(r, cell(1, 1)))
		wantNoFormula(t, areaOf(cell(1, 1), r))
		wantNoFormula(t, areaOf(r, r))
	}
	for _, s := range []string{"", "!", "==", "=>", "=<", "><", "<<", "+ ", " +", "%", ":", "(", ",", "+-", "<=>", "&&", "x", "^2"} {
		wantNoFormula(t, op(s, num(1), num(2)))
	}
}

// goodOnes: a good formula for each kind of node.
func goodOnes() []nodes {
	return []nodes{num(1), words("a"), truth("TRUE"), wrong("#N/A"), refTo(cell(1, 1)), areaOf(cell(1, 1), cell(2, 2)), name("x"), minus(num(1)), percent(num(1)), op("+", num(1), num(2)), call("F"), call("F", num(1)), array(1, num(1))}
}

func TestFieldsThatShouldBeZero(t *testing.T) {
	told := map[int]string{
		impl.NodNum: "num", impl.NodText: "text", impl.NodBool: "text", impl.NodErr: "text", impl.NodRef: "from", impl.NodArea: "from to", impl.NodName: "text",
		impl.NodOp: "text", impl.NodCall: "text", impl.NodArray: "text",
	}
	change := map[string]func(n *impl.Node){
		"text": func(n *impl.Node) { n.Text = "A" },
		"num":  func(n *impl.Node) { n.Num = impl.Dec{Digits: 1} },
		"from": func(n *impl.Node) { n.From = cell(1, 1) },
		"to":   func(n *impl.Node) { n.To = cell(1, 1) },
	}
	for _, f := range goodOnes() {
		if !impl.GoodFormula(f) {
			t.Errorf("GoodFormula(%v) = false", f)
		}
		for field, change := range change {
			if slices.Contains(strings.Fields(told[f[0].Kind]), field) {
				continue
			}
			g := slices.Clone(f)
			change(&g[0])
			wantNoFormula(t, g)
			wantNoFormula(t, minus(g))
			wantNoFormula(t, call("F", num(1), g))
		}
		for _, less := range []func(n *impl.Node){
			func(n *impl.Node) { n.From.RowFix = true }, func(n *impl.Node) { n.To.ColFix = true }, func(n *impl.Node) { n.Num.Exp = 1 }, func(n *impl.Node) { n.Num.Neg = true },
		} {
			g := slices.Clone(f)
			less(&g[0])
			isRef := f[0].Kind == impl.NodRef && g[0].From != f[0].From || f[0].Kind == impl.NodArea && g[0].Num == f[0].Num
			isNum := f[0].Kind == impl.NodNum && g[0].Num.Exp == 1
			if !isRef && !isNum {
				wantNoFormula(t, g)
			}
		}
	}
	for _, change := range change {
		g := nothing()
		change(&g[0])
		wantNoFormula(t, call("F", g, num(1)))
	}
}

func TestTreesOfOtherSizes(t *testing.T) {
	for _, f := range append(goodOnes(), broad(impl.MaxNodes), call("F", nothing(), nothing()), array(2, many(num(1), 6)...)) {
		for cut := range len(f) {
			wantNoFormula(t, f[:cut])
		}
		wantNoFormula(t, slices.Concat(f, num(1)))
		wantNoFormula(t, slices.Concat(f, nothing()))
		wantNoFormula(t, slices.Concat(f, f))
		wantNoFormula(t, slices.Concat(num(1), f))
		for _, kids := range []int{-1, f[0].Kids - 1, f[0].Kids + 1, f[0].Kids + 2, 31, 101, 1000, math.MaxInt, math.MinInt, math.MaxInt32 + 1, -math.MaxInt} {
			g := slices.Clone(f)
			g[0].Kids = kids
			wantNoFormula(t, g)
			wantNoFormula(t, slices.Concat(g, nodes{{}}))
		}
	}
	wantNoFormula(t, make(nodes, 100000))
	wantNoFormula(t, slices.Concat(many(num(1), 1000)...))
}

func TestNothingAsAKid(t *testing.T) {
	wantNoFormula(t, minus(nothing()))
	wantNoFormula(t, percent(nothing()))
	wantNoFormula(t, op("+", nothing(), num(1)))
	wantNoFormula(t, op("+", num(1), nothing()))
	wantNoFormula(t, call("F", nothing()))
	wantNoFormula(t, call("F", minus(nothing()), num(1)))
	wantNoFormula(t, call("F", num(1), call("G", nothing())))
	for _, f := range []nodes{call("F", nothing(), nothing()), call("F", num(1), nothing()), call("F", nothing(), num(1)), call("F", call("F", nothing(), nothing()))} {
		if !impl.GoodFormula(f) {
			t.Errorf("GoodFormula(%v) = false", f)
		}
	}
}

func TestRowsOfArraysAreTold(t *testing.T) {
	for _, rows := range []string{"1", "2", "3", "6"} {
		f := over(impl.Node{Kind: impl.NodArray, Text: rows}, many(num(1), 6)...)
		text := impl.FormulaText(f)
		wantNodes(t, text, f, text)
	}
}
