package tests

import (
	"math"
	"slices"
	"strings"
	"testing"

	"loop.example/g00025/impl"
)

var noRows = []int{0, impl.MaxRow + 1, -1, -impl.MaxRow, math.MaxInt, math.MinInt}

var noCols = []int{0, impl.MaxCol + 1, -1, -impl.MaxCol, math.MaxInt, math.MinInt}

var fixings = []impl.Ref{{}, {RowFix: true}, {ColFix: true}, {RowFix: true, ColFix: true}}

func cell(row, col int) impl.Ref {
	return impl.Ref{Row: row, Col: col}
}

// fixed: the cell with the fixes of another ref.
func fixed(row, col int, fix impl.Ref) impl.Ref {
	return impl.Ref{Row: row, Col: col, RowFix: fix.RowFix, ColFix: fix.ColFix}
}

func area(row, col, toRow, toCol int) impl.Area {
	return impl.Area{From: cell(row, col), To: cell(toRow, toCol)}
}

// noPlaces: rows and columns of which at least one is none.
func noPlaces() []impl.Ref {
	var out []impl.Ref
	for _, row := range noRows {
		out = append(out, cell(row, 1), cell(row, impl.MaxCol))
		for _, col := range noCols {
			out = append(out, cell(row, col))
		}
	}
	for _, col := range noCols {
		out = append(out, cell(1, col), cell(impl.MaxRow, col))
	}
	return out
}

// noRefs: the places that are none, fixed in each way.
func noRefs() []impl.Ref {
	var out []impl.Ref
	for _, p := range noPlaces() {
		for _, fix := range fixings {
			out = append(out, fixed(p.Row, p.Col, fix))
		}
	}
	return out
}

// noAreas: one end, or both, is no good ref.
func noAreas() []impl.Area {
	out := []impl.Area{{}}
	for _, r := range noRefs() {
		out = append(out,
			impl.Area{From: r, To: cell(5, 5)},
			impl.Area{From: cell(5, 5), To: r},
			impl.Area{From: r, To: r},
		)
	}
	return out
}

var knownCols = []struct {
	n    int
	name string
}{
	{1, "A"}, {2, "B"}, {25, "Y"}, {26, "Z"},
	{27, "AA"}, {28, "AB"}, {51, "AY"}, {52, "AZ"},
	{53, "BA"}, {78, "BZ"}, {79, "CA"}, {182, "FZ"}, {183, "GA"},
	{199, "GQ"}, {impl.MaxCol, "GR"},
}

func TestColumns(t *testing.T) {
	for _, c := range knownCols {
		if got := impl.ColName(c.n); got != c.name {
			t.Errorf("ColName(%d) = %q, want %q", c.n, got, c.name)
		}
		if got := impl.ColNumber(c.name); got != c.n {
			t.Errorf("ColNumber(%q) = %d, want %d", c.name, got, c.n)
		}
	}
	for _, n := range noCols {
		if got := impl.ColName(n); got != "" {
			t.Errorf("ColName(%d) = %q, want none", n, got)
		}
	}
}

func TestColNumberOfNone(t *testing.T) {
	texts := []string{
		"", "a", "z", "aa", "Aa", "aA", "gr", "gR",
		"GS", "GZ", "HA", "ZZ", "AAA", "AAZ", "GRA", "ZZZ", "ZZZZZZZZZZZZZZZZ",
		"A1", "1A", "1", " A", "A ", "A\n", "$A", "A$", "@", "[", "A@", "A[", "AÄ", "Ä", "\x00", "A\x00", "\xff",
		strings.Repeat("A", 1000), strings.Repeat("Z", 1000), "AAAAAAAAAAAAAAAAAAAAAAAAAAAAAAAAAAAAAAAAAAAAAAAAAA",
	}
	for _, s := range texts {
		if got := impl.ColNumber(s); got != 0 {
			t.Errorf("ColNumber(%q) = %d, want 0", s, got)
		}
	}
}

func TestGoodRef(t *testing.T) {
	for _, fix := range fixings {
		for _, row := range []int{1, 2, impl.MaxRow - 1, impl.MaxRow} {
			for _, col := range []int{1, 2, impl.MaxCol - 1, impl.MaxCol} {
				if r := fixed(row, col, fix); !impl.GoodRef(r) {
					t.Errorf("GoodRef(%v) = false", r)
				}
			}
		}
	}
	for _, r := range noRefs() {
		if impl.GoodRef(r) {
			t.Errorf("GoodRef(%v) = true", r)
		}
	}
}

var knownRefs = []struct {
	row    int
	col    int
	rowFix bool
	colFix bool
	text   string
}{
	{12, 2, false, true, "$B12"},
	{12, 2, true, false, "B$12"},
	{12, 2, true, true, "$B$12"},
	{12, 2, false, false, "B12"},
	{1, 1, false, false, "A1"},
	{1, 1, true, true, "$A$1"},
	{1, 26, false, true, "$Z1"},
	{10, 27, true, false, "AA$10"},
	{100, 52, false, false, "AZ100"},
	{101, 53, true, true, "$BA$101"},
	{1, impl.MaxCol, false, false, "GR1"},
	{impl.MaxRow, 1, false, false, "A1000"},
	{impl.MaxRow, impl.MaxCol, true, true, "$GR$1000"},
}

func TestRefs(t *testing.T) {
	for _, c := range knownRefs {
		r := impl.Ref{Row: c.row, Col: c.col, RowFix: c.rowFix, ColFix: c.colFix}
		if got := impl.RefText(r); got != c.text {
			t.Errorf("RefText(%v) = %q, want %q", r, got, c.text)
		}
		if got, ok := impl.ReadRef(c.text); !ok || got != r {
			t.Errorf("ReadRef(%q) = %v, %v, want %v", c.text, got, ok, r)
		}
	}
	for _, r := range noRefs() {
		if got := impl.RefText(r); got != "" {
			t.Errorf("RefText(%v) = %q, want none", r, got)
		}
	}
}

func TestReadRefOfNone(t *testing.T) {
	texts := []string{
		"", "$", "$$", "A", "$A", "A$", "$A$", "1", "$1", "$$1", "12", "B", "b12", "$b12", "aa1", "Aa1", "aA1", "gr1000",
		"A0", "A$0", "A00", "A01", "B012", "$B$012", "A001000", "A-1", "A-0", "A+1", "A$+1", "A$-1", "A 1", " A1", "A1 ",
		"A1001", "A10000", "A1002", "A9999", "GS1", "$GS$1", "ZZ1", "AAA1", "A1A", "A1$", "A$1$", "A1$1", "A$$1", "$$A1", "$A1$",
		"A1:B2", "A1,", "A1.", "A1.0", "A1e0", "A1_0", "A1_000", "A0x1", "A1\n", "A1\x00", "\x00A1", "1A", "R1C1", "RC", "R[1]C", "Ä1", "A\xff1",
		"A9223372036854775807", "A9223372036854775808", "A18446744073709551617", "A99999999999999999999999999",
		"A" + strings.Repeat("0", 1000) + "1", strings.Repeat("A", 1000) + "1", strings.Repeat("$", 1000),
		"A" + strings.Repeat("1", 1000),
	}
	for _, s := range texts {
		if got, ok := impl.ReadRef(s); ok || got != (impl.Ref{}) {
			t.Errorf("ReadRef(%q) = %v, %v, want none", s, got, ok)
		}
	}
}

var knownSeen = []struct {
	home impl.Ref
	ref  impl.Ref
	text string
}{
	{cell(13, 5), impl.Ref{Row: 12, Col: 3, ColFix: true}, "R[-1]C3"},
	{cell(5, 5), cell(5, 5), "RC"},
	{cell(5, 5), cell(4, 5), "R[-1]C"},
	{cell(5, 5), cell(6, 5), "R[1]C"},
	{cell(5, 5), cell(5, 4), "RC[-1]"},
	{cell(5, 5), cell(5, 6), "RC[1]"},
	{cell(5, 5), cell(1, 9), "R[-4]C[4]"},
	{cell(5, 5), impl.Ref{Row: 5, Col: 5, RowFix: true}, "R5C"},
	{cell(5, 5), impl.Ref{Row: 5, Col: 5, ColFix: true}, "RC5"},
	{cell(5, 5), impl.Ref{Row: 5, Col: 5, RowFix: true, ColFix: true}, "R5C5"},
	{cell(5, 5), impl.Ref{Row: 2, Col: 7, RowFix: true}, "R2C[2]"},
	{cell(5, 5), impl.Ref{Row: 2, Col: 7, ColFix: true}, "R[-3]C7"},
	{cell(1, 1), cell(impl.MaxRow, impl.MaxCol), "R[999]C[199]"},
	{cell(impl.MaxRow, impl.MaxCol), cell(1, 1), "R[-999]C[-199]"},
	{cell(1, 1), impl.Ref{Row: impl.MaxRow, Col: impl.MaxCol, RowFix: true, ColFix: true}, "R1000C200"},
	{cell(impl.MaxRow, impl.MaxCol), impl.Ref{Row: 1, Col: 1, RowFix: true, ColFix: true}, "R1C1"},
	{cell(1, impl.MaxCol), cell(1, impl.MaxCol), "RC"},
	{cell(impl.MaxRow, 1), cell(impl.MaxRow, 1), "RC"},
}

func TestRefsBy(t *testing.T) {
	for _, c := range knownSeen {
		if got := impl.RefTextBy(c.ref, c.home.Row, c.home.Col); got != c.text {
			t.Errorf("RefTextBy(%v, %v) = %q, want %q", c.ref, c.home, got, c.text)
		}
		if got, ok := impl.ReadRefBy(c.text, c.home.Row, c.home.Col); !ok || got != c.ref {
			t.Errorf("ReadRefBy(%q, %v) = %v, %v, want %v", c.text, c.home, got, ok, c.ref)
		}
	}
}

func TestRefsByWrong(t *testing.T) {
	for _, r := range noRefs() {
		if got := impl.RefTextBy(r, 5, 5); got != "" {
			t.Errorf("RefTextBy(%v, 5, 5) = %q, want none", r, got)
		}
	}
	for _, p := range noPlaces() {
		for _, fix := range fixings {
			if got := impl.RefTextBy(fixed(5, 5, fix), p.Row, p.Col); got != "" {
				t.Errorf("RefTextBy by %v = %q, want none", p, got)
			}
		}
		for _, s := range []string{"RC", "R1C1", "RC1", "R1C", "R[1]C[1]", "R[-1]C[-1]", "R[1]C1", ""} {
			if got, ok := impl.ReadRefBy(s, p.Row, p.Col); ok || got != (impl.Ref{}) {
				t.Errorf("ReadRefBy(%q) by %v = %v, %v, want none", s, p, got, ok)
			}
		}
	}
}

func TestReadRefByOfNone(t *testing.T) {
	texts := []string{
		"", "R", "C", "CR", "R1", "C1", "C1R1", "rc", "Rc", "rC", "r1c1", "RCC", "RRC", "RC ", " RC", "R C", "RC\n", "RC\x00",
		"R[0]C", "RC[0]", "R[-0]C", "RC[-0]", "R[+1]C", "RC[+1]", "R[01]C", "RC[01]", "R[-01]C", "RC[-01]", "R[00]C", "R[--1]C", "R[- 1]C", "R[1 ]C",
		"R0C", "RC0", "R0C0", "R01C", "RC01", "R-1C", "RC-1", "R-0C", "RC-0", "R+1C", "RC+1", "R$1C1", "$R1C1",
		"R[]C", "RC[]", "R[-]C", "RC[-]", "R[1C", "R1]C", "RC[1", "RC1]", "R[1]C[1", "R[1]]C", "R[[1]]C", "R[[1]C", "R][C", "R(1)C", "R[1][1]C", "R[1]1C", "R1[1]C",
		"R[-5]C", "RC[-5]", "R[-6]C", "RC[-9]", "R[996]C", "RC[196]", "R1001C", "R1001C1", "RC201", "R1C201", "R10000C1", "R1C1 ", "R1C1C1", "R1C1R", "R1C1A", "R1C1:R2C2",
		"R1.0C", "R1_0C", "R0x1C", "RC1e1", "A1", "$A$1", "B12", "R12", "C3",
		"R[9223372036854775807]C", "R[-9223372036854775808]C", "R[18446744073709551617]C", "R[9223372036854775808]C", "R18446744073709551617C", "RC18446744073709551617",
		"R[-9223372036854775807]C[-9223372036854775807]", "R9223372036854775807C9223372036854775807",
		"R" + strings.Repeat("0", 1000) + "1C", strings.Repeat("R", 1000) + "C", "R" + strings.Repeat("C", 1000), "R[" + strings.Repeat("1", 1000) + "]C", strings.Repeat("[", 1000),
	}
	for _, s := range texts {
		if got, ok := impl.ReadRefBy(s, 5, 5); ok || got != (impl.Ref{}) {
			t.Errorf("ReadRefBy(%q, 5, 5) = %v, %v, want none", s, got, ok)
		}
	}
}

func TestReadRefByEnds(t *testing.T) {
	cases := []struct {
		text string
		home impl.Ref
		ok   bool
	}{
		{"R[-1]C", cell(1, 1), false},
		{"RC[-1]", cell(1, 1), false},
		{"R[-1]C", cell(2, 1), true},
		{"RC[-1]", cell(1, 2), true},
		{"R[1]C", cell(impl.MaxRow, 1), false},
		{"RC[1]", cell(1, impl.MaxCol), false},
		{"R[1]C", cell(impl.MaxRow-1, 1), true},
		{"RC[1]", cell(1, impl.MaxCol-1), true},
		{"R[999]C[199]", cell(1, 1), true},
		{"R[1000]C", cell(1, 1), false},
		{"RC[200]", cell(1, 1), false},
		{"R[-999]C[-199]", cell(impl.MaxRow, impl.MaxCol), true},
		{"R[-1000]C", cell(impl.MaxRow, impl.MaxCol), false},
		{"RC[-200]", cell(impl.MaxRow, impl.MaxCol), false},
		{"R1000C200", cell(1, 1), true},
		{"R1001C200", cell(1, 1), false},
		{"R1000C201", cell(1, 1), false},
	}
	for _, c := range cases {
		got, ok := impl.ReadRefBy(c.text, c.home.Row, c.home.Col)
		if ok != c.ok || !ok && got != (impl.Ref{}) {
			t.Errorf("ReadRefBy(%q, %v) = %v, %v, want %v", c.text, c.home, got, ok, c.ok)
		}
	}
}

func TestGoodArea(t *testing.T) {
	good := []impl.Area{
		area(1, 1, 1, 1),
		area(1, 1, impl.MaxRow, impl.MaxCol),
		area(impl.MaxRow, impl.MaxCol, 1, 1),
		area(5, 2, 2, 5),
		{From: fixed(1, 2, fixings[1]), To: fixed(3, 1, fixings[3])},
	}
	for _, a := range good {
		if !impl.GoodArea(a) {
			t.Errorf("GoodArea(%v) = false", a)
		}
	}
	for _, a := range noAreas() {
		if impl.GoodArea(a) {
			t.Errorf("GoodArea(%v) = true", a)
		}
	}
}

func TestNormal(t *testing.T) {
	ref := func(row int, rowFix bool, col int, colFix bool) impl.Ref {
		return impl.Ref{Row: row, Col: col, RowFix: rowFix, ColFix: colFix}
	}
	cases := []struct {
		what string
		a    impl.Area
		want impl.Area
	}{
		{"is normal", impl.Area{From: ref(1, true, 2, false), To: ref(3, false, 4, true)}, impl.Area{From: ref(1, true, 2, false), To: ref(3, false, 4, true)}},
		{"rows turned", impl.Area{From: ref(3, true, 2, false), To: ref(1, false, 4, true)}, impl.Area{From: ref(1, false, 2, false), To: ref(3, true, 4, true)}},
		{"columns turned", impl.Area{From: ref(1, true, 4, false), To: ref(3, false, 2, true)}, impl.Area{From: ref(1, true, 2, true), To: ref(3, false, 4, false)}},
		{"both turned", impl.Area{From: ref(3, true, 4, false), To: ref(1, false, 2, true)}, impl.Area{From: ref(1, false, 2, true), To: ref(3, true, 4, false)}},
		{"same row, From fixed", impl.Area{From: ref(3, true, 4, false), To: ref(3, false, 2, true)}, impl.Area{From: ref(3, true, 2, true), To: ref(3, false, 4, false)}},
		{"same row, To fixed", impl.Area{From: ref(3, false, 4, true), To: ref(3, true, 2, false)}, impl.Area{From: ref(3, false, 2, false), To: ref(3, true, 4, true)}},
		{"same column, From fixed", impl.Area{From: ref(4, false, 3, true), To: ref(2, true, 3, false)}, impl.Area{From: ref(2, true, 3, true), To: ref(4, false, 3, false)}},
		{"same column, To fixed", impl.Area{From: ref(4, true, 3, false), To: ref(2, false, 3, true)}, impl.Area{From: ref(2, false, 3, false), To: ref(4, true, 3, true)}},
		{"one cell, From fixed", impl.Area{From: ref(3, true, 3, true), To: ref(3, false, 3, false)}, impl.Area{From: ref(3, true, 3, true), To: ref(3, false, 3, false)}},
		{"one cell, To fixed", impl.Area{From: ref(3, false, 3, false), To: ref(3, true, 3, true)}, impl.Area{From: ref(3, false, 3, false), To: ref(3, true, 3, true)}},
		{"from end to end", area(impl.MaxRow, impl.MaxCol, 1, 1), area(1, 1, impl.MaxRow, impl.MaxCol)},
	}
	for _, c := range cases {
		if got := impl.Normal(c.a); got != c.want {
			t.Errorf("%s: Normal(%v) = %v, want %v", c.what, c.a, got, c.want)
		}
	}
	for _, a := range noAreas() {
		if got := impl.Normal(a); got != (impl.Area{}) {
			t.Errorf("Normal(%v) = %v, want none", a, got)
		}
	}
}

var knownAreas = []struct {
	what    string
	a       impl.Area
	b       impl.Area
	meet    impl.Area
	meets   bool
	hull    impl.Area
	without []impl.Area
}{
	{"apart", area(1, 1, 2, 2), area(4, 4, 5, 5), impl.Area{}, false, area(1, 1, 5, 5), []impl.Area{area(1, 1, 2, 2)}},
	{"apart, side by side", area(1, 1, 2, 2), area(1, 3, 2, 4), impl.Area{}, false, area(1, 1, 2, 4), []impl.Area{area(1, 1, 2, 2)}},
	{"apart, one below", area(3, 1, 4, 2), area(1, 1, 2, 2), impl.Area{}, false, area(1, 1, 4, 2), []impl.Area{area(3, 1, 4, 2)}},
	{"apart, told round", area(2, 2, 1, 1), area(5, 4, 4, 5), impl.Area{}, false, area(1, 1, 5, 5), []impl.Area{area(1, 1, 2, 2)}},
	{"rows in common alone", area(1, 1, 5, 2), area(2, 4, 3, 5), impl.Area{}, false, area(1, 1, 5, 5), []impl.Area{area(1, 1, 5, 2)}},
	{"the same", area(2, 2, 3, 3), area(3, 3, 2, 2), area(2, 2, 3, 3), true, area(2, 2, 3, 3), nil},
	{"held", area(2, 2, 3, 3), area(1, 1, 4, 4), area(2, 2, 3, 3), true, area(1, 1, 4, 4), nil},
	{"one cell, the same", area(1, 1, 1, 1), area(1, 1, 1, 1), area(1, 1, 1, 1), true, area(1, 1, 1, 1), nil},
	{"one cell in both", area(1, 1, 3, 3), area(3, 3, 5, 5), area(3, 3, 3, 3), true, area(1, 1, 5, 5), []impl.Area{area(1, 1, 2, 3), area(3, 1, 3, 2)}},
	{"one cell in both, at the left below", area(1, 3, 3, 5), area(3, 1, 5, 3), area(3, 3, 3, 3), true, area(1, 1, 5, 5), []impl.Area{area(1, 3, 2, 5), area(3, 4, 3, 5)}},
	{"one left: above", area(1, 1, 4, 4), area(3, 1, 4, 4), area(3, 1, 4, 4), true, area(1, 1, 4, 4), []impl.Area{area(1, 1, 2, 4)}},
	{"one left: below", area(1, 1, 4, 4), area(1, 1, 2, 4), area(1, 1, 2, 4), true, area(1, 1, 4, 4), []impl.Area{area(3, 1, 4, 4)}},
	{"one left: left", area(1, 1, 4, 4), area(1, 3, 4, 4), area(1, 3, 4, 4), true, area(1, 1, 4, 4), []impl.Area{area(1, 1, 4, 2)}},
	{"one left: right", area(1, 1, 4, 4), area(1, 1, 4, 2), area(1, 1, 4, 2), true, area(1, 1, 4, 4), []impl.Area{area(1, 3, 4, 4)}},
	{"two left: above and below", area(1, 1, 4, 4), area(2, 1, 3, 4), area(2, 1, 3, 4), true, area(1, 1, 4, 4), []impl.Area{area(1, 1, 1, 4), area(4, 1, 4, 4)}},
	{"two left: left and right", area(1, 1, 4, 4), area(1, 2, 4, 3), area(1, 2, 4, 3), true, area(1, 1, 4, 4), []impl.Area{area(1, 1, 4, 1), area(1, 4, 4, 4)}},
	{"two left: below and right", area(1, 1, 4, 4), area(1, 1, 3, 2), area(1, 1, 3, 2), true, area(1, 1, 4, 4), []impl.Area{area(4, 1, 4, 4), area(1, 3, 3, 4)}},
	{"three left: not above", area(1, 1, 5, 5), area(1, 2, 2, 3), area(1, 2, 2, 3), true, area(1, 1, 5, 5), []impl.Area{area(3, 1, 5, 5), area(1, 1, 2, 1), area(1, 4, 2, 5)}},
	{"three left: not right", area(1, 1, 5, 5), area(2, 4, 3, 9), area(2, 4, 3, 5), true, area(1, 1, 5, 9), []impl.Area{area(1, 1, 1, 5), area(4, 1, 5, 5), area(2, 1, 3, 3)}},
	{"four left", area(1, 1, 5, 5), area(2, 2, 3, 3), area(2, 2, 3, 3), true, area(1, 1, 5, 5), []impl.Area{area(1, 1, 1, 5), area(4, 1, 5, 5), area(2, 1, 3, 1), area(2, 4, 3, 5)}},
	{"four left, told round", area(5, 1, 1, 5), area(3, 2, 2, 3), area(2, 2, 3, 3), true, area(1, 1, 5, 5), []impl.Area{area(1, 1, 1, 5), area(4, 1, 5, 5), area(2, 1, 3, 1), area(2, 4, 3, 5)}},
	{"one row", area(3, 1, 3, 9), area(1, 4, 9, 6), area(3, 4, 3, 6), true, area(1, 1, 9, 9), []impl.Area{area(3, 1, 3, 3), area(3, 7, 3, 9)}},
	{"one column", area(1, 3, 9, 3), area(4, 1, 6, 9), area(4, 3, 6, 3), true, area(1, 1, 9, 9), []impl.Area{area(1, 3, 3, 3), area(7, 3, 9, 3)}},
	{"all without a corner", area(1, 1, impl.MaxRow, impl.MaxCol), area(1, 1, 1, 1), area(1, 1, 1, 1), true, area(1, 1, impl.MaxRow, impl.MaxCol), []impl.Area{area(2, 1, impl.MaxRow, impl.MaxCol), area(1, 2, 1, impl.MaxCol)}},
	{"all without the last", area(1, 1, impl.MaxRow, impl.MaxCol), area(impl.MaxRow, impl.MaxCol, impl.MaxRow, impl.MaxCol), area(impl.MaxRow, impl.MaxCol, impl.MaxRow, impl.MaxCol), true, area(1, 1, impl.MaxRow, impl.MaxCol), []impl.Area{area(1, 1, impl.MaxRow-1, impl.MaxCol), area(impl.MaxRow, 1, impl.MaxRow, impl.MaxCol-1)}},
}

func TestAreas(t *testing.T) {
	for _, c := range knownAreas {
		for i, fix := range fixings {
			a := impl.Area{From: fixed(c.a.From.Row, c.a.From.Col, fix), To: fixed(c.a.To.Row, c.a.To.Col, fixings[3-i])}
			b := impl.Area{From: fixed(c.b.From.Row, c.b.From.Col, fixings[3-i]), To: fixed(c.b.To.Row, c.b.To.Col, fix)}
			if got, ok := impl.Meet(a, b); ok != c.meets || got != c.meet {
				t.Errorf("%s: Meet(%v, %v) = %v, %v, want %v", c.what, a, b, got, ok, c.meet)
			}
			if got, ok := impl.Meet(b, a); ok != c.meets || got != c.meet {
				t.Errorf("%s: Meet(%v, %v) = %v, %v, want %v", c.what, b, a, got, ok, c.meet)
			}
			if got := impl.Hull(a, b); got != c.hull {
				t.Errorf("%s: Hull(%v, %v) = %v, want %v", c.what, a, b, got, c.hull)
			}
			if got := impl.Hull(b, a); got != c.hull {
				t.Errorf("%s: Hull(%v, %v) = %v, want %v", c.what, b, a, got, c.hull)
			}
			if got := impl.Without(a, b); !slices.Equal(got, c.without) {
				t.Errorf("%s: Without(%v, %v) = %v, want %v", c.what, a, b, got, c.without)
			}
		}
	}
}

func TestAreasWrong(t *testing.T) {
	for _, bad := range noAreas() {
		for _, good := range []impl.Area{area(1, 1, impl.MaxRow, impl.MaxCol), area(5, 5, 5, 5), bad} {
			for _, pair := range [][2]impl.Area{{bad, good}, {good, bad}} {
				if got, ok := impl.Meet(pair[0], pair[1]); ok || got != (impl.Area{}) {
					t.Errorf("Meet(%v) = %v, %v, want none", pair, got, ok)
				}
				if got := impl.Hull(pair[0], pair[1]); got != (impl.Area{}) {
					t.Errorf("Hull(%v) = %v, want none", pair, got)
				}
				if got := impl.Without(pair[0], pair[1]); len(got) != 0 {
					t.Errorf("Without(%v) = %v, want none", pair, got)
				}
			}
		}
	}
}

func TestWithoutIsNewMemory(t *testing.T) {
	a, b := area(1, 1, 5, 5), area(2, 2, 3, 3)
	first := impl.Without(a, b)
	want := slices.Clone(first)
	for i := range first {
		first[i] = area(9, 9, 9, 9)
	}
	if again := impl.Without(a, b); !slices.Equal(again, want) {
		t.Errorf("Without(%v, %v) = %v after its first answer was written into, want %v", a, b, again, want)
	}
}
