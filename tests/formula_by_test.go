package tests

import (
	"slices"
	"strings"
	"testing"

	"loop.example/g00025/impl"
)

// wantNodesBy asks that a text in the second notation is read as these nodes, and told as another one, or itself.
func wantNodesBy(t *testing.T, text string, row, col int, want nodes, told string) {
	t.Helper()
	got := impl.ReadFormulaBy(text, row, col)
	if got.Err != 0 || got.At != 0 || !slices.Equal(got.Nodes, want) {
		t.Errorf("ReadFormulaBy(%q, %d, %d) = %v, want %v", text, row, col, got, want)
	}
	if s := impl.FormulaTextBy(want, row, col); s != told {
		t.Errorf("FormulaTextBy(%v, %d, %d) = %q, want %q", want, row, col, s, told)
	}
}

// knownBy: texts as the cell in row 2, column 3 has them.
var knownBy = []struct {
	text  string
	nodes nodes
	told  string
}{
	{"=rc", refTo(cell(2, 3)), "=RC"},
	{"=R[-1]C[-2]", refTo(cell(1, 1)), "=R[-1]C[-2]"},
	{"=r[-1]c[-2]", refTo(cell(1, 1)), "=R[-1]C[-2]"},
	{"=R[998]C[197]", refTo(cell(1000, 200)), "=R[998]C[197]"},
	{"=R3C3", refTo(fix33), "=R3C3"},
	{"=R2C", refTo(impl.Ref{Row: 2, Col: 3, RowFix: true}), "=R2C"},
	{"=RC3", refTo(impl.Ref{Row: 2, Col: 3, ColFix: true}), "=RC3"},
	{"=R[5]C3", refTo(impl.Ref{Row: 7, Col: 3, ColFix: true}), "=R[5]C3"},
	{"=RC:RC", areaOf(cell(2, 3), cell(2, 3)), "=RC:RC"},
	{"=R1C1:r3c3", areaOf(fix11, fix33), "=R1C1:R3C3"},
	{"=R3C3:R3C3", areaOf(fix33, fix33), "=R3C3:R3C3"},
	{"=R[1]C[1]:R[-1]C", areaOf(cell(3, 4), cell(1, 3)), "=R[1]C[1]:R[-1]C"},
	{"=RC-1", op("-", refTo(cell(2, 3)), num(1)), "=RC-1"},
	{"=RC--R[-1]C", op("-", refTo(cell(2, 3)), minus(refTo(cell(1, 3)))), "=RC--R[-1]C"},
	{"=-RC%", minus(percent(refTo(cell(2, 3)))), "=-RC%"},
	{"=RC ^ RC[1]", op("^", refTo(cell(2, 3)), refTo(cell(2, 4))), "=RC^RC[1]"},
	{"=sum( rc:rc )", call("SUM", areaOf(cell(2, 3), cell(2, 3))), "=SUM(RC:RC)"},
	{"=(R1C1+R[1]C)*2", op("*", op("+", refTo(fix11), refTo(cell(3, 3))), num(2)), "=(R1C1+R[1]C)*2"},
	{"=R1C1_", name("R1C1_"), "=R1C1_"},
	{"=RC.x", name("RC.x"), "=RC.x"},
	{"=RCC", name("RCC"), "=RCC"},
	{"=CR", name("CR"), "=CR"},
	{"=RCRC", name("RCRC"), "=RCRC"},
	{"=R1C1R", name("R1C1R"), "=R1C1R"},
	{"=f(RC,,x)", call("F", refTo(cell(2, 3)), nothing(), name("x")), "=F(RC,,x)"},
	{`={1,-2;"RC",true}`, array(2, num(1), minus(num(2)), words("RC"), truth("TRUE")), `={1,-2;"RC",TRUE}`},
	{"=1.5E3&#ref!", op("&", numExp(15, 2), wrong("#REF!")), "=1500&#REF!"},
}

func TestKnownFormulasBy(t *testing.T) {
	for _, c := range knownBy {
		wantNodesBy(t, c.text, 2, 3, c.nodes, c.told)
		wantNodesBy(t, c.told, 2, 3, c.nodes, c.told)
	}
}

// What has no address is the same in both notations.
func TestKnownFormulasWithoutAddresses(t *testing.T) {
	for _, c := range knownFormulas {
		if slices.ContainsFunc(c.nodes, func(n impl.Node) bool { return n.From != (impl.Ref{}) }) {
			continue
		}
		for _, home := range []impl.Ref{cell(1, 1), cell(2, 3), cell(impl.MaxRow, impl.MaxCol)} {
			wantNodesBy(t, c.text, home.Row, home.Col, c.nodes, c.told)
		}
	}
}

func TestEveryFixBy(t *testing.T) {
	homes := []impl.Ref{cell(1, 1), cell(2, 3), cell(500, 100), cell(impl.MaxRow, impl.MaxCol)}
	ends := []impl.Ref{cell(1, 1), cell(2, 3), cell(499, 101), cell(500, 100), cell(impl.MaxRow, impl.MaxCol)}
	for _, home := range homes {
		for _, a := range ends {
			for _, b := range ends {
				for way := range 16 {
					from, to := fixed(a.Row, a.Col, fixings[way%4]), fixed(b.Row, b.Col, fixings[way/4])
					f := op("-", refTo(from), areaOf(to, from))
					ref, far := toldBy(from, home.Row, home.Col), toldBy(to, home.Row, home.Col)
					text := "=" + ref + "-" + far + ":" + ref
					wantNodesBy(t, text, home.Row, home.Col, f, text)
					wantNodesBy(t, strings.ToLower(text), home.Row, home.Col, f, text)
				}
			}
		}
	}
}

func TestFaultsBy(t *testing.T) {
	for _, c := range []struct {
		text     string
		row, col int
		at       int
	}{
		{"=", 1, 1, 1}, {"=R[-1]C", 1, 1, 1}, {"=RC[-1]", 1, 1, 1}, {"=1+R[1]C", 1000, 1, 3}, {"=RC[1]", 1, 200, 1}, {"=R[1000]C", 1, 1, 1}, {"=RC[200]", 1, 1, 1},
		{"=R", 5, 5, 1}, {"=C", 5, 5, 1}, {"=R1", 5, 5, 1}, {"=C5", 5, 5, 1}, {"=R[1]", 5, 5, 1}, {"=C[1]", 5, 5, 1}, {"=R[]C", 5, 5, 1}, {"=R[0]C", 5, 5, 1}, {"=R[-0]C", 5, 5, 1}, {"=R[01]C", 5, 5, 1}, {"=R[+1]C", 5, 5, 1}, {"=R0C1", 5, 5, 1}, {"=R01C1", 5, 5, 1}, {"=R1001C1", 5, 5, 1}, {"=R1C201", 5, 5, 1}, {"=R-1C", 5, 5, 1}, {"=R[1C", 5, 5, 1}, {"=R1]C", 5, 5, 1}, {"=R[--1]C", 5, 5, 1}, {"=R[1-]C", 5, 5, 1}, {"=R[-]C", 5, 5, 1}, {"=R[", 5, 5, 1}, {"=R[-", 5, 5, 1}, {"=R[[1]]C", 5, 5, 1}, {"=R[1]C[1]]", 5, 5, 1}, {"=R[1]C[1][1]", 5, 5, 1}, {"=R[ 1]C", 5, 5, 1}, {"=R [1]C", 5, 5, 1}, {"=R[1] C", 5, 5, 1}, {"=RC [1]", 5, 5, 4},
		{"=A1", 5, 5, 1}, {"=1+b2", 5, 5, 3}, {"=GR1000", 5, 5, 1}, {"=A1:B2", 5, 5, 1}, {"=A1(1)", 5, 5, 1}, {"=$A$1", 5, 5, 1}, {"=1+$A1", 5, 5, 3}, {"=$", 5, 5, 1}, {"=R$1C1", 5, 5, 1}, {"=RC$", 5, 5, 3}, {"=RC$1", 5, 5, 3}, {"=x$1", 5, 5, 2}, {"=$R1C1", 5, 5, 1}, {"=f($", 5, 5, 3},
		{"=RC(1)", 5, 5, 1}, {"=R1C1(1)", 5, 5, 1}, {"=R[1]C(1)", 5, 5, 1}, {"=RC (1)", 5, 5, 4}, {"=R(1)", 5, 5, 1}, {"=c (1)", 5, 5, 1}, {"=R[1]C_", 5, 5, 1}, {"=R[1]C.", 5, 5, 1}, {"=RC RC", 5, 5, 4},
		{"=RC:", 5, 5, 4}, {"=RC:R", 5, 5, 4}, {"=RC:A1", 5, 5, 4}, {"=RC: RC", 5, 5, 4}, {"=RC :RC", 5, 5, 4}, {"=RC:RC_", 5, 5, 4}, {"=RC:RC.", 5, 5, 4}, {"=RC:RCx", 5, 5, 4}, {"=RC:[1]", 5, 5, 4}, {"=RC:-1", 5, 5, 4}, {"=RC:x", 5, 5, 4}, {"=RC:$R1C1", 5, 5, 4}, {"=RC:RC:RC", 5, 5, 6}, {"=RC:RC(1)", 5, 5, 6}, {"=RC:R[-5]C", 5, 5, 4}, {"=R:R", 5, 5, 1}, {"=C:C", 5, 5, 1}, {"=R1:R2", 5, 5, 1},
		{"=x[1]", 5, 5, 2}, {"=x]", 5, 5, 2}, {"=[1]", 5, 5, 1}, {"=]", 5, 5, 1}, {"=1[", 5, 5, 2}, {"=x[-1]", 5, 5, 2}, {"=TRUE[1]", 5, 5, 5}, {"={RC}", 5, 5, 2}, {"={1,R1C1}", 5, 5, 4}, {"={R[1]C}", 5, 5, 2},
		{"=1+", 5, 5, 3}, {"={1,2;3}", 5, 5, 1}, {`="a`, 5, 5, 1},
	} {
		wantFaultBy(t, c.text, c.row, c.col, 2, c.at)
	}
	wantFaultBy(t, "="+strings.Repeat("-", 40)+"RC", 5, 5, 3, 0)
	wantFaultBy(t, "=F("+strings.Repeat("RC,", 30)+"RC)", 5, 5, 3, 0)
}

func TestNoPlaces(t *testing.T) {
	for _, p := range noPlaces() {
		for _, text := range []string{"=1", "=RC", "=R1C1", "=x", "", "=", "=(", "1", "=" + strings.Repeat("-", 100) + "1"} {
			if got := impl.ReadFormulaBy(text, p.Row, p.Col); got.Err != 0 || got.At != 0 || len(got.Nodes) != 0 {
				t.Errorf("ReadFormulaBy(%q, %d, %d) = %v, want the zero answer", text, p.Row, p.Col, got)
			}
		}
		for _, f := range []nodes{num(1), refTo(cell(1, 1)), name("x"), nil} {
			if got := impl.FormulaTextBy(f, p.Row, p.Col); got != "" {
				t.Errorf("FormulaTextBy(%v, %d, %d) = %q, want none", f, p.Row, p.Col, got)
			}
		}
	}
}

func TestUsedAreas(t *testing.T) {
	for _, c := range []struct {
		text string
		want []impl.Area
	}{
		{"=1", nil}, {"=x", nil}, {"=f()", nil}, {"={1,2}", nil},
		{"=A1", []impl.Area{area(1, 1, 1, 1)}},
		{"=$B$3", []impl.Area{area(3, 2, 3, 2)}},
		{"=A1+$A$1+A$1+A1:A1+$A1:A$1", []impl.Area{area(1, 1, 1, 1)}},
		{"=B2:A1+A1:B2+A2:$B$1+B1:A2", []impl.Area{area(1, 1, 2, 2)}},
		{"=C3+A1:B2+A1+C3", []impl.Area{area(3, 3, 3, 3), area(1, 1, 2, 2), area(1, 1, 1, 1)}},
		{"=SUM(GR1000:A1,-B1%,(C1))^D1", []impl.Area{area(1, 1, 1000, 200), area(1, 2, 1, 2), area(1, 3, 1, 3), area(1, 4, 1, 4)}},
		{"=f(x,A2,#REF!,\"B3\")", []impl.Area{area(2, 1, 2, 1)}},
	} {
		if got := impl.UsedAreas(impl.ReadFormula(c.text).Nodes); !slices.Equal(got, c.want) {
			t.Errorf("UsedAreas of %s = %v, want %v", c.text, got, c.want)
		}
	}
}

func TestUsedNames(t *testing.T) {
	for _, c := range []struct {
		text string
		want []string
	}{
		{"=1", nil}, {"=A1", nil}, {"=f()", nil}, {`="x"`, nil}, {"=TRUE&#NAME?", nil}, {"={TRUE,\"x\"}", nil},
		{"=x", []string{"X"}},
		{"=x+X+x", []string{"X"}},
		{"=b+A+a+B+d", []string{"B", "A", "D"}},
		{"=rate(tax,Rate)+rate", []string{"TAX", "RATE"}},
		{"=-f(_a.b1%,,x_)^_A.B1", []string{"_A.B1", "X_"}},
	} {
		if got := impl.UsedNames(impl.ReadFormula(c.text).Nodes); !slices.Equal(got, c.want) {
			t.Errorf("UsedNames of %s = %v, want %v", c.text, got, c.want)
		}
	}
}

// TestFormulasAreLeftAlone asks that nothing is written into nodes, and that no two answers share any.
func TestFormulasAreLeftAlone(t *testing.T) {
	long := append(make(nodes, 0, 400), call("F", name("x"), areaOf(cell(3, 3), fix11), refTo(fix33))...)
	spare := long[:cap(long)]
	spare[len(long)] = impl.Node{Kind: impl.NodName, Text: "behind"}
	before := slices.Clone(spare)
	for range 2 {
		text := impl.FormulaText(long)
		by := impl.FormulaTextBy(long, 5, 5)
		areas := impl.UsedAreas(long)
		names := impl.UsedNames(long)
		if !impl.GoodFormula(long) || text != "=F(x,C3:$A$1,$C$3)" || by != "=F(x,R[-2]C[-2]:R1C1,R3C3)" || len(areas) != 2 || len(names) != 1 {
			t.Errorf("%q, %q, %v, %v", text, by, areas, names)
		}
		if !slices.Equal(spare, before) {
			t.Error("the nodes were written into")
		}
		areas[0] = impl.Area{}
		names[0] = ""
		if !slices.Equal(spare, before) {
			t.Error("an answer shares memory with the nodes")
		}
	}
	first, second := impl.ReadFormula("=f(x)"), impl.ReadFormula("=f(x)")
	first.Nodes[1].Text = "y"
	if second.Nodes[1].Text != "x" || impl.ReadFormula("=f(x)").Nodes[1].Text != "x" {
		t.Error("two answers share memory")
	}
}
