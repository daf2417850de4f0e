package tests

import (
	"fmt"
	"slices"
	"strings"
	"testing"

	"loop.example/g00025/impl"
)

func readArea(text string) impl.Area {
	first, last, isPair := strings.Cut(text, ":")
	if !isPair {
		last = first
	}
	from, okFrom := impl.ReadRef(first)
	to, okTo := impl.ReadRef(last)
	if !okFrom || !okTo {
		panic(text)
	}
	return impl.Area{From: from, To: to}
}

// ruleOf is told as an area, a kind's word and what it goes by.
func ruleOf(text string) impl.Rule {
	parts := strings.SplitN(text+"   ", " ", 3)
	r, rest := impl.Rule{Area: readArea(parts[0])}, strings.TrimSpace(parts[2])
	switch parts[1] {
	case "meets":
		op, by, _ := strings.Cut(rest, " ")
		r.Kind, r.Op, r.By = impl.RuleMeets, op, impl.TypedValue(by)
	case "top":
		r.Kind, r.By = impl.RuleTop, impl.TypedValue(rest)
	case "twice":
		r.Kind, r.By = impl.RuleTwice, impl.TypedValue(rest)
	case "formula":
		r.Kind, r.By = impl.RuleFormula, impl.Value{Kind: impl.ValText, Text: rest}
	default:
		panic(text)
	}
	return r
}

// rulesOf are told with ` | ` between; their styles are their numbers from 1 on.
func rulesOf(text string) []impl.Rule {
	var out []impl.Rule
	for _, one := range strings.Split(text, " | ") {
		r := ruleOf(one)
		r.Style = len(out) + 1
		out = append(out, r)
	}
	return out
}

func wantStyles(t *testing.T, s impl.Sheet, rules []impl.Rule, row, col int, want string) {
	t.Helper()
	wasSheet, wasRules := cloned(s), slices.Clone(rules)
	if got := toldRows(impl.Styles(s, rules, row, col)); got != want {
		t.Errorf("%s by %v at %d, %d: styles %q, want %q", toldSheet(s), rules, row, col, got, want)
	}
	if !sameSheets(s, wasSheet) || !slices.Equal(rules, wasRules) {
		t.Errorf("%s by %v was written into", toldSheet(wasSheet), wasRules)
	}
}

// checkStyles has places, as addresses with blanks between, and what stands out there by the rules.
func checkStyles(t *testing.T, sheet, rules string, places [][2]string) {
	t.Helper()
	s := sheetOf(sheet)
	if !impl.GoodSheet(s) {
		t.Fatalf("%s: no good sheet", sheet)
	}
	for _, c := range places {
		for _, at := range strings.Fields(c[0]) {
			place := readArea(at).From
			wantStyles(t, s, rulesOf(rules), place.Row, place.Col, c[1])
		}
	}
}

func TestRulesOfMeeting(t *testing.T) {
	checkStyles(t, "A1: 1 | A2: 2 | A3: x | A4: TRUE | A5: #N/A | A6: =A1+A2 | A7: =SEQUENCE(2) | A9: '2 | A10: '",
		"A1:A20 meets > 1 | A1:A20 meets = 2 | A1:A20 meets <> 2 | A1:A20 meets = X | A1:A20 meets = | A1:A20 meets = #N/A | A1:A20 meets <> #REF! | A1:A20 meets <= TRUE | A1:A20 meets == 1 | A1:A20 meets",
		[][2]string{
			{"A1 A7", "3 7"}, {"A2 A8", "1 2 7"}, {"A6", "1 3 7"}, {"A3", "3 4 7"}, {"A4", "3 7 8"}, {"A5", "6 7"}, {"A9", "3 7"},
			// An empty cell is the empty text.
			{"A10 A11 A20", "3 5 7"},
			// Outside the areas.
			{"A21 B1 B2 GR1000", ""},
		})
	// All operators, at one place.
	checkStyles(t, "B2: 5", "B2 meets = 5 | B2 meets <> 5 | B2 meets < 5 | B2 meets > 5 | B2 meets <= 5 | B2 meets >= 5 | B2 meets < 6 | B2 meets > 4", [][2]string{{"B2", "1 5 6 7 8"}, {"B1 A2 C2 B3", ""}})
}

// TestRulesOfTop: the k-th greatest, each number as often as it comes.
func TestRulesOfTop(t *testing.T) {
	checkStyles(t, "A1: 5 | A2: 9 | A3: 7 | A4: 9 | A5: -1 | A6: x | A7: TRUE | A8: #N/A | A9: '99 | B1: 100",
		"A1:A12 top 1 | A1:A12 top 2 | A1:A12 top 3 | A1:A12 top 4 | A1:A12 top 5 | A1:A12 top 6 | A1:A12 top 1000000",
		[][2]string{
			{"A2 A4", "1 2 3 4 5 6 7"}, {"A3", "3 4 5 6 7"}, {"A1", "4 5 6 7"}, {"A5", "5 6 7"},
			// What is no number, and an empty cell.
			{"A6 A7 A8 A9 A10 A12", ""}, {"B1", ""},
		})
	checkStyles(t, "A1: 5 | A2: 9 | A3: 7 | B1: 100",
		"A1:B1 top 1 | A1:B3 top 1 | A1 top 1 | A2:A3 top 1 | A3:A3 top 1 | A1:A2 top 2",
		[][2]string{{"B1", "1 2"}, {"A1", "3 6"}, {"A2", "4 6"}, {"A3", "5"}})
	// k of 0, below, with a part behind the point, that is no number or no whole.
	checkStyles(t, "A1: 3 | A2: 2 | A3: 1",
		"A1:A3 top 0 | A1:A3 top -1 | A1:A3 top 0.9 | A1:A3 top 1.9 | A1:A3 top 2.000001 | A1:A3 top '1 | A1:A3 top '3 | A1:A3 top x | A1:A3 top TRUE | A1:A3 top | A1:A3 top #N/A | A1:A3 top 1E+18 | A1:A3 top 1E+19 | A1:A3 top 1E+300 | A1:A3 top -0.5 | A1:A3 top -1E+300 | A1:A3 top 1E-300 | A1:A3 top 2.99999999999999",
		[][2]string{{"A1", "4 5 12 18"}, {"A2", "5 12 18"}, {"A3", "12"}, {"A4 B1", ""}})
	// All the same; numbers below 0; what is reckoned and what is laid down.
	checkStyles(t, "A1: 4 | A2: 4 | A3: 4.0", "A1:A3 top 1", [][2]string{{"A1 A2 A3", "1"}})
	checkStyles(t, "A1: -4 | A2: -5 | A3: -4.5", "A1:A3 top 1 | A1:A3 top 2", [][2]string{{"A1", "1 2"}, {"A3", "2"}, {"A2", ""}})
	checkStyles(t, "A1: =SEQUENCE(3)*10 | B1: =A2+5", "A1:B3 top 1 | A1:B3 top 2 | A1:A9 top 2", [][2]string{{"A3", "1 2 3"}, {"B1", "2"}, {"A2", "3"}, {"A1", ""}})
	checkStyles(t, "A1: 999999999999999E+300 | A2: 999999999999998E+300 | A3: 1E-300 | A4: 2E-300", "A1:A2 top 1 | A3:A4 top 1", [][2]string{{"A1", "1"}, {"A2", ""}, {"A3", ""}, {"A4", "2"}})
}

func TestRulesOfTwice(t *testing.T) {
	checkStyles(t, "A1: 1 | A2: 2 | A3: 1 | A4: a | A5: A | A6: '1 | A7: #N/A | A8: #N/A | A9: #REF! | A10: TRUE | A11: true | A12: FALSE | A13: ' | A15: 0 | B1: 2 | B2: #REF!",
		"A1:A20 twice | A1:B20 twice | A1:A2 twice | A1:A1 twice | A3:A4 twice",
		[][2]string{
			{"A1", "1 2"}, {"A3", "1 2"}, {"A2 B1", "2"}, {"A4 A5 A7 A8 A10 A11", "1 2"}, {"A9 B2", "2"},
			// A text that looks like a number; the empty text, 0 and FALSE, beside empty cells.
			{"A6 A12 A13 A15", ""}, {"A14 A16 A20", ""},
		})
	// Texts in another case, numbers told another way, what is reckoned and laid down; By counts for nothing.
	checkStyles(t, "A1: Abc | A2: aBC | A3: ab | B1: 1.50 | B2: =3/2 | B3: ={1,1.5}", "A1:A3 twice | B1:C3 twice 7 | B1:B3 twice x | A1:GR1000 twice #N/A",
		[][2]string{{"A1 A2", "1 4"}, {"A3", ""}, {"B1 B2", "2 3 4"}, {"B3", ""}, {"C3", "2 4"}})
	// Two empty texts are twice the same; two empty cells are none.
	checkStyles(t, "A1: ' | A2: =\"\"", "A1:B9 twice", [][2]string{{"A1 A2", "1"}, {"A3 B1 B9", ""}})
}

// TestRulesOfFormulas: filled from the normal area's first cell to the place.
func TestRulesOfFormulas(t *testing.T) {
	checkStyles(t, "A1: 1 | A2: 5 | A3: 3 | B1: 1 | B2: 2 | B3: 3 | C1: 5",
		"A1:A3 formula =A1=B1 | A3:A1 formula =A1=B1 | A1:A3 formula =$A$1=B1 | A1:B3 formula =A1=$C$1 | B3:A2 formula =A2=$C1 | A1:B3 formula =A$1=1 | A1:B3 formula =$A1=3",
		[][2]string{{"A1", "1 2 3 6"}, {"A2", "4 5 6"}, {"A3", "1 2 6 7"}, {"B1", "6"}, {"B2", "6"}, {"B3", "6 7"}, {"C1", ""}})
	// An area whose ends are told across; fixes of its ends count for nothing.
	checkStyles(t, "A1: 1 | B2: 2 | C3: 3", "C1:A3 formula =A1>0 | A3:C1 formula =A1>0 | $C$3:$A$1 formula =A1>0 | C3:A1 formula =C3>0", [][2]string{{"A1", "1 2 3 4"}, {"B2 C3", "1 2 3"}, {"A2 C1", ""}})
	checkStyles(t, "C3: 1", "C3:A1 formula =C3=1 | A1:C3 formula =C3=1", [][2]string{{"A1", "1 2"}, {"C3", ""}})
	// What is TRUE: bools, numbers, texts; the first cell of a grid; by 0 for an empty one.
	checkStyles(t, "A1: 1",
		"A1 formula =TRUE | A1 formula =FALSE | A1 formula =1 | A1 formula =0 | A1 formula =-0.5 | A1 formula =\"true\" | A1 formula =\"TRUE\" | A1 formula =\"false\" | A1 formula =\"x\" | A1 formula =\"1\" | A1 formula =\"\" | A1 formula =#N/A | A1 formula =1/0 | A1 formula ={TRUE,FALSE} | A1 formula ={FALSE,TRUE} | A1 formula ={0;1} | A1 formula ={2,0} | A1 formula =B9 | A1 formula =B9:C10 | A1 formula =A1:A5 | A1 formula =ISBLANK(B9)",
		[][2]string{{"A1", "1 3 5 6 7 14 17 20 21"}, {"B9", ""}})
	// Texts that are no formula; By that is no text.
	checkStyles(t, "A1: 1", "A1 formula TRUE | A1 formula A1=1 | A1 formula | A1 formula = | A1 formula =A1+ | A1 formula =NOSUCH | A1 formula =nosuch(1) | A1 formula '=TRUE | A1 formula =A1", [][2]string{{"A1", "9"}})
	for _, by := range []impl.Value{yes, numVal("1"), empty, errVal("#N/A"), no} {
		wantStyles(t, sheetOf("A1: 1"), []impl.Rule{{Area: area(1, 1, 1, 1), Kind: impl.RuleFormula, By: by, Style: 7}}, 1, 1, "")
	}
	// Names, function values, cells that need themselves, what is laid down.
	checkStyles(t, "A1: 1 | A2: 2 | B1: =B1 | C1: ={1,2} | LIM: =A1+0.5 | ODD: =LAMBDA(n,MOD(n,2)=1)",
		"A1:A2 formula =A1>lim | A1:A2 formula =odd(A1) | B1:B2 formula =ISERROR(B1) | C1:D1 formula =C1=2 | A1:A2 formula =LET(x,A1,x*x=4) | A1:A2 formula =SUM(MAP(A1:A2,LAMBDA(x,x)))=3",
		[][2]string{{"A1", "2 6"}, {"A2", "1 5"}, {"B1", "3"}, {"B2", ""}, {"C1", ""}, {"D1", "4"}})
}

// TestRulesThatLoseReferences: what is filled beyond the last row or column is lost.
func TestRulesThatLoseReferences(t *testing.T) {
	checkStyles(t, "A1: 1 | A999: 1 | A1000: 1 | GR1: 1",
		"A1:A1000 formula =ISERROR(A2) | A1:A1000 formula =A1=1 | A1:A1000 formula =ISERROR(A$1000) | A1:GR1 formula =ISERROR(B1) | A1:GR1 formula =ISERROR($GR1) | A1:A1000 formula =ISERROR(SUM(A1:A2)) | A1:A1000 formula =A2 | A998:A1000 formula =ISERROR(A999) | A998:A1000 formula =ISERROR(A1000)",
		[][2]string{{"A1", "2"}, {"A2", ""}, {"A998", "7"}, {"A999", "2 7 9"}, {"A1000", "1 2 6 8 9"}, {"GR1", "4"}, {"GQ1", ""}})
	// Counted from the last cell of all to the first: nothing moves at the area's first cell.
	checkStyles(t, "GR1000: 1", "GR1000:A1 formula =GR1000=1 | GR1000 formula =GR1000=1 | A1:GR1000 formula =ISERROR(B2)", [][2]string{{"A1", "1"}, {"GR1000", "2 3"}, {"A2", ""}})
}

// TestLongFormulasOfRules: a formula stays one when its text would become too long by being filled.
func TestLongFormulasOfRules(t *testing.T) {
	row := "SUM(A1:A1" + strings.Repeat(",A1:A1", 29) + ")"
	text := "=SUM(" + row + strings.Repeat(","+row, 4) + ")"
	if f := impl.ReadFormula(text); f.Err != 0 || len(impl.Filled(f.Nodes, 999, 199)) != 156 || impl.FormulaText(impl.Filled(f.Nodes, 999, 199)) != "" {
		t.Fatal("no such formula")
	}
	rules := []impl.Rule{{Area: area(1, 1, 1000, 200), Kind: impl.RuleFormula, By: wordsVal(text), Style: 3}}
	s := sheetOf("A1: 1 | GR1000: 1")
	wantStyles(t, s, rules, 1, 1, "3")
	wantStyles(t, s, rules, 1000, 200, "3")
	wantStyles(t, s, rules, 1000, 199, "")
	// Each rule has evaluations of its own, as many as a cell.
	wantStyles(t, s, rulesOf("A1 formula ="+burnt(19998)+"=0 | A1 formula ="+burnt(19998)+"=0 | A1 formula ="+burnt(19999)+"=0"), 1, 1, "1 2")
}

// TestSeveralRules: in the order in which they stand, styles of any number, also the same.
func TestSeveralRules(t *testing.T) {
	s, rules := sheetOf("A1: 5 | A2: 5"), rulesOf("A1:A2 twice | A1 meets = 5 | A2 meets = 5 | A1:B2 top 1 | A1 formula =A1=5")
	for i, style := range []int{9, -4, 7, 9, 1 << 62} {
		rules[i].Style = style
	}
	wantStyles(t, s, rules, 1, 1, "9 -4 9 4611686018427387904")
	wantStyles(t, s, rules, 2, 1, "9 7 9")
	slices.Reverse(rules)
	wantStyles(t, s, rules, 1, 1, "4611686018427387904 9 -4 9")
	wantStyles(t, s, nil, 1, 1, "")
	wantStyles(t, s, []impl.Rule{}, 1, 1, "")
	wantStyles(t, impl.Sheet{}, rulesOf("A1:B2 meets = | A1:B2 top 1 | A1:B2 twice | A1:B2 formula =A1=0 | A1:B2 meets <> 1"), 1, 1, "1 4 5")
	// Fifty rules, and one more.
	many := slices.Repeat([]impl.Rule{ruleOf("A1 meets = 5")}, 51)
	wantStyles(t, s, many[:50], 1, 1, strings.TrimSpace(strings.Repeat("0 ", 50)))
	wantStyles(t, s, many, 1, 1, "")
	wantStyles(t, s, many[:49], 1, 1, strings.TrimSpace(strings.Repeat("0 ", 49)))
	wantStyles(t, s, slices.Repeat(many, 20), 1, 1, "")
	wantStyles(t, s, append(slices.Repeat([]impl.Rule{ruleOf("Z9 twice")}, 50), many[0]), 1, 1, "")
}

// TestAreasOfRules: each place in an area, told from each of its corners, and those around it.
func TestAreasOfRules(t *testing.T) {
	for _, text := range []string{"B2:D4", "D4:B2", "B4:D2", "D2:B4", "$B$2:D$4", "$D4:$B2"} {
		rules := rulesOf(text + " meets <> 1")
		for row := 1; row <= 5; row++ {
			for col := 1; col <= 5; col++ {
				want := ""
				if 2 <= row && row <= 4 && 2 <= col && col <= 4 {
					want = "1"
				}
				wantStyles(t, impl.Sheet{}, rules, row, col, want)
			}
		}
	}
	for _, at := range [][2]int{{1, 1}, {1, 200}, {1000, 1}, {1000, 200}, {500, 100}} {
		wantStyles(t, impl.Sheet{}, rulesOf("A1:GR1000 meets = | GR1000:A1 meets = | A1000:GR1 formula =ISBLANK(A1)"), at[0], at[1], "1 2 3")
	}
}

// TestNoStyles: nothing where one thing is not good, be it of a rule that does not hold the place.
func TestNoStyles(t *testing.T) {
	s, rules := sheetOf("A1: 5"), rulesOf("A1 meets = 5 | A1:A9 top 1 | A1 formula =TRUE")
	wantStyles(t, s, rules, 1, 1, "1 2 3")
	for _, r := range noPlaces() {
		everywhere := rulesOf("A1:GR1000 meets <> 1 | A1:GR1000 formula =TRUE")
		wantStyles(t, s, everywhere, r.Row, r.Col, "")
		bad := []impl.Rule{{Area: impl.Area{From: r, To: r}, Kind: impl.RuleMeets, Op: "<>"}}
		wantStyles(t, s, bad, r.Row, r.Col, "")
	}
	for _, bad := range noSheets() {
		if got := impl.Styles(bad, rules, 1, 1); len(got) > 0 {
			t.Errorf("%v stands out in a sheet of %d cells and %d names", got, len(bad.Cells), len(bad.Names))
		}
	}
	for _, bad := range badRules() {
		for _, list := range [][]impl.Rule{{bad}, append(slices.Clone(rules), bad), append([]impl.Rule{bad}, rules...)} {
			if got := impl.Styles(s, list, 1, 1); len(got) > 0 {
				t.Errorf("%v stands out by %v", got, bad)
			}
		}
	}
	// An operator may be any.
	for _, kind := range []int{1, 2, 3, 4} {
		for _, op := range []string{"", "no", "\x00\xff", letters(100000)} {
			list := append(slices.Clone(rules), impl.Rule{Area: area(1, 1, 9, 9), Kind: kind, Op: op, Style: 4})
			wantStyles(t, s, list, 1, 1, "1 2 3")
		}
	}
}

// badRules are not good by their areas, their kinds or what they go by; some of them do not hold the first cell.
func badRules() []impl.Rule {
	var out []impl.Rule
	for _, a := range noAreas() {
		out = append(out, impl.Rule{Area: a, Kind: impl.RuleMeets, Op: "<>"}, impl.Rule{Area: a, Kind: impl.RuleTwice})
	}
	for _, place := range []impl.Area{area(1, 1, 1, 1), area(7, 7, 8, 8)} {
		for _, kind := range append([]int{0, 5, 6, 9, -1, -4, 257, 260}, farNumbers...) {
			if kind < 1 || kind > 4 {
				out = append(out, impl.Rule{Area: place, Kind: kind, Op: "<>"})
			}
		}
		for _, by := range noValues() {
			for kind := 1; kind <= 4; kind++ {
				out = append(out, impl.Rule{Area: place, Kind: kind, Op: "<>", By: by})
			}
		}
	}
	return out
}

// TestStylesAreNewMemory writes into an answer, and asks again.
func TestStylesAreNewMemory(t *testing.T) {
	s, rules := sheetOf("A1: 5 | A2: 5"), rulesOf("A1:A2 twice | A1:A2 meets = 5 | A1:A2 formula =A1=5")
	for range 2 {
		got := impl.Styles(s, rules, 1, 1)
		if told := fmt.Sprint(got); told != "[1 2 3]" {
			t.Errorf("%s", told)
		}
		_ = append(got, 9, 9)
		clear(got)
	}
}
