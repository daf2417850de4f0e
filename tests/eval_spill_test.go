package tests

import (
	"fmt"
	"strings"
	"testing"

	"loop.example/g00025/impl"
)

func TestLaidDown(t *testing.T) {
	checkSheets(t, [][2]string{
		{"A1: ={1,2}", "A1=1 B1~2"}, {"A1: ={1;2}", "A1=1 A2~2"}, {"B2: ={1,2;3,4}", "B2=1 C2~2 B3~3 C3~4"}, {"A1: ={5}", "A1=5"}, {"A1: ={\"a\",TRUE;#N/A,0.5}", `A1="a" B1~TRUE A2~#N/A B2~0.5`},
		{"C1: x | A1: ={1,2} | A2: y", `A1=1 B1~2 C1="x" A2="y"`},
		// To the last row and column, and one beyond.
		{"A999: ={1;2}", "A999=1 A1000~2"}, {"A1000: ={1;2}", "A1000=#SPILL!"}, {"A1000: ={1,2}", "A1000=1 B1000~2"}, {"A999: ={1;2;3}", "A999=#SPILL!"}, {"GQ1: ={1,2}", "GQ1=1 GR1~2"}, {"GR1: ={1,2}", "GR1=#SPILL!"}, {"GR1: ={1;2}", "GR1=1 GR2~2"}, {"GQ999: ={1,2;3,4}", "GQ999=1 GR999~2 GQ1000~3 GR1000~4"}, {"GR999: ={1,2;3,4}", "GR999=#SPILL!"}, {"GQ1000: ={1,2;3,4}", "GQ1000=#SPILL!"}, {"GR1000: ={5}", "GR1000=5"}, {"GR1000: ={1,2}", "GR1000=#SPILL!"},
		// On a cell with a text, whatever that holds.
		{"A1: ={1,2} | B1: x", `A1=#SPILL! B1="x"`}, {"A1: ={1,2} | B1: '", `A1=#SPILL! B1=""`}, {"A1: ={1,2;3,4} | B2: 5", "A1=#SPILL! B2=5"}, {"A1: ={1,2;3,4} | A2: 5", "A1=#SPILL! A2=5"}, {"A1: ={1,2} | B1: =Z9", "A1=#SPILL! B1=0"}, {"A1: ={1,2} | B1: =B1", "A1=#SPILL! B1=#CYCLE!"}, {"A1: ={1,2} | B1: =1+", "A1=#SPILL! B1=#NAME?"}, {"A1: ={1,2} | B1: ={1,2} | C1: x", `A1=#SPILL! B1=#SPILL! C1="x"`}, {"A1: ={1,2,3} | C1: ={1;2} | B2: =1", "A1=#SPILL! C1=1 B2=1 C2~2"}, {"A1: =#SPILL! | B1: ={#SPILL!,1}", "A1=#SPILL! B1=#SPILL! C1~1"},
		// What could not be laid down is one error for all that ask for it.
		{"A1: ={1,2} | B1: x | C1: =A1 | D1: =IFERROR(A1,9) | E1: =SUM(A1:B1)", `A1=#SPILL! B1="x" C1=#SPILL! D1=9 E1=#SPILL!`},
		{"A1: =SEQUENCE(2,2) | C1: =B2+1 | D3: =SUM(A1:B2)", "A1=1 B1~2 C1=5 A2~3 B2~4 D3=10"},
	})
	for _, text := range []string{"=SEQUENCE(1000,2)", "=SEQUENCE(10,200)"} {
		list := impl.EvalSheet(sheetOf("A1: " + text))
		if len(list) != 2000 || list[1999].Value != numVal("2000") || list[1999].From || !list[0].From {
			t.Errorf("%s shows %d", text, len(list))
		}
	}
}

// TestLaidUponEachOther: the earlier one has the cell, and the later one says so as soon as a round has ended.
func TestLaidUponEachOther(t *testing.T) {
	checkSheets(t, [][2]string{
		{"C4: ={1,2} | D3: ={7;8}", "D3=7 C4=#SPILL! D4~8"}, {"B1: ={1;2;3} | A2: ={5,6}", "B1=1 A2=#SPILL! B2~2 B3~3"}, {"B1: ={1;2} | A2: ={5,6;7,8}", "B1=1 A2=#SPILL! B2~2"},
		// The same value does not help.
		{"B1: ={1;2} | A2: ={1,2}", "B1=1 A2=#SPILL! B2~2"},
		// The earlier one has no room itself: then it lays nothing down.
		{"B1: ={1;2;3} | A2: ={5,6} | B3: x", `B1=#SPILL! A2=5 B2~6 B3="x"`},
		// The second gives way to the first, and then the third need not give way to the second.
		{"C1: =SEQUENCE(3) | B2: =SEQUENCE(3,2) | A4: ={1,2}", "C1=1 B2=#SPILL! C2~2 C3~3 A4=1 B4~2"},
		{"D1: =SEQUENCE(3) | C2: =SEQUENCE(3,2) | B4: =SEQUENCE(3,2) | A6: ={1,2}", "D1=1 C2=#SPILL! D2~2 D3~3 B4=1 C4~2 B5~3 C5~4 A6=#SPILL! B6~5 C6~6"},
		{"A1: =COUNT(A2:C4) | C1: =SEQUENCE(3) | B2: =SEQUENCE(3,2) | A4: ={1,2}", "A1=4 C1=1 B2=#SPILL! C2~2 C3~3 A4=1 B4~2"},
		// An earlier one that comes to a cell later takes it, with another value or with the same.
		{"E1: ={0,1} | C1: =IF(F1=1,{5;6},5) | B2: ={1,7}", "C1=5 E1=0 F1~1 B2=#SPILL! C2~6"},
		{"E1: ={0,1} | C1: =IF(F1=1,{5;7},5) | B2: ={1,7}", "C1=5 E1=0 F1~1 B2=#SPILL! C2~7"},
		// An earlier one that goes leaves the cell to the later one, a round on.
		{"E1: ={0,1} | C1: =IF(F1=1,5,{5;6}) | B2: ={1,7}", "C1=5 E1=0 F1~1 B2=1 C2~7"},
	})
}

func TestReadingWhatIsLaidDown(t *testing.T) {
	checkSheets(t, [][2]string{
		{"A1: ={1,2} | A2: =B1*10 | A3: =SUM(A1:B2)", "A1=1 B1~2 A2=20 A3=23"},
		{"A1: =B3 | A3: ={1,2}", "A1=2 A3=1 B3~2"},
		// A grid as large as what another one laid down: of two, of three rounds.
		{"A1: ={1;2;3} | B1: =A1:A3*2 | C1: =B1:B3+1", "A1=1 B1=2 C1=3 A2~2 B2~4 C2~5 A3~3 B3~6 C3~7"},
		{"A1: ={1,2,3} | A2: =SEQUENCE(C1) | B2: =COUNT(A2:A9) | C2: =SEQUENCE(1,B2)", "A1=1 B1~2 C1~3 A2=1 B2=3 C2=1 D2~2 E2~3 A3~2 A4~3"},
		{"A1: =FILTER(A5:A9,A5:A9>1,0) | A5: =SEQUENCE(4)", "A1=2 A2~3 A3~4 A5=1 A6~2 A7~3 A8~4"},
		// A cell of its own that it lays down is one round behind, and here it comes to rest.
		{"A1: =HSTACK(5,IF(B1=0,7,B1))", "A1=5 B1~7"}, {"A1: =HSTACK(5,MIN(B1+1,4))", "A1=5 B1~4"}, {"A1: =B1:C2", "A1=0 B1~0 A2~0 B2~0"},
		{"A1: =IF(ISBLANK(B1),{1,2},{3,4})&\"!\"", `A1="3!" B1~"4!"`},
		// It lays down as long as there is nothing: then there is nothing again, without an end.
		{"A1: =IF(ISBLANK(B1),{1,2},5)", "A1=#CYCLE!"},
	})
}

// TestRoundsThatDoNotEnd: after 20 rounds what differs from the round ahead is given up.
func TestRoundsThatDoNotEnd(t *testing.T) {
	checkSheets(t, [][2]string{
		{"A1: =SEQUENCE(2)+A2 | B1: =A1 | C1: =A2 | D1: =A2>0", "A1=#CYCLE! B1=#CYCLE! C1=#CYCLE! D1=FALSE"},
		{"A1: =HSTACK(1,NOT(B1))", "A1=#CYCLE!"}, {"A1: =HSTACK(1,B1+1) | A2: ={1,2} | A3: =B2", "A1=#CYCLE! A2=1 B2~2 A3=2"},
		// The same cells, in a row and in a column by turns.
		{"A1: =IF(ISBLANK(B1),{1,2},{1;2})", "A1=#CYCLE!"}, {"A1: =IF(ISBLANK(B1),{1,1;1,1},{1;1;1;1})", "A1=#CYCLE!"},
		// The first cell stays as it is, but the grid does not; what hangs on the first cell alone is not given up.
		{"A1: =HSTACK(1,B1+1) | A2: =A1+1 | A3: =ISERROR(A1)", "A1=#CYCLE! A2=#CYCLE! A3=TRUE"},
		{"A1: =HSTACK(1,B1+1) | A2: =IFERROR(A1,9) | A3: =IFERROR(B1,9)", "A1=#CYCLE! A2=9 A3=#CYCLE!"},
		// It grows up to 19, and rests at the 20th round; one more is too many.
		{"A1: =HSTACK(1,MIN(B1+1,19))", "A1=1 B1~19"}, {"A1: =HSTACK(1,MIN(B1+1,20))", "A1=#CYCLE!"}, {"A1: =HSTACK(1,MIN(B1+1,19)) | A2: =B1", "A1=1 B1~19 A2=19"}, {"A1: =HSTACK(1,MIN(B1+1,20)) | A2: =B1 | A3: =B1+0", "A1=#CYCLE! A2=#CYCLE! A3=#CYCLE!"},
		// A ring of three: in the 20th round the second alone differs, and the others come to rest without it.
		{"A1: =HSTACK(1,NOT(B3)) | A2: =HSTACK(1,B1) | A3: =HSTACK(1,B2)", "A1=1 B1~TRUE A2=#CYCLE! A3=1 B3~0"},
		// One begins only when another one is given up: it goes at the 40th round, a third one at the 60th.
		{"A1: =HSTACK(1,NOT(B1)) | A5: =HSTACK(1,IF(ISERROR(A1),NOT(B5),TRUE)) | C5: =ISERROR(A5)", "A1=#CYCLE! A5=#CYCLE! C5=TRUE"},
		{"A1: =HSTACK(1,NOT(B1)) | A5: =HSTACK(1,IF(ISERROR(A1),NOT(B5),TRUE)) | A9: =HSTACK(1,IF(ISERROR(A5),B9+1,0)) | C9: =A9", "A1=#CYCLE! A5=#CYCLE! A9=#CYCLE! C9=#CYCLE!"},
		// One that rests by the 40th is not given up.
		{"A1: =HSTACK(1,NOT(B1)) | A5: =HSTACK(1,IF(ISERROR(A1),MIN(B5+1,19),0))", "A1=#CYCLE! A5=1 B5~19"}, {"A1: =HSTACK(1,NOT(B1)) | A5: =HSTACK(1,IF(ISERROR(A1),MIN(B5+1,20),0))", "A1=#CYCLE! A5=#CYCLE!"},
		// Two that push each other, and two that let each other be.
		{"B1: =IF(ISERROR(A2),1,{1;2}) | A2: ={5,6}", "B1=#CYCLE! A2=#CYCLE!"}, {"B1: =IF(ISERROR(A2),{1;2},1) | A2: ={5,6}", "B1=1 A2=5 B2~6"},
		{"C1: =IF(C2=6,5,{5;6}) | B2: ={1,7}", "C1=#CYCLE! B2=#CYCLE!"},
	})
}

// inLine is a sheet in which each formula reads what the one above it has laid down, so that it takes a round each.
func inLine(n int) string {
	lines := []string{"A1: ={1,2}"}
	for i := 2; i <= n; i++ {
		lines = append(lines, fmt.Sprintf("A%d: =HSTACK(1,B%d)", i, i-1))
	}
	return strings.Join(lines, " | ")
}

func TestManyRounds(t *testing.T) {
	line := func(n int, value string) string {
		var out []string
		for i := 1; i <= n; i++ {
			out = append(out, fmt.Sprintf("A%d=1 B%d~%s", i, i, value))
		}
		return strings.Join(out, " ")
	}
	for n := 1; n <= 19; n++ {
		checkSheets(t, [][2]string{{inLine(n), line(n, "2")}})
	}
	checkSheets(t, [][2]string{
		{inLine(20), line(19, "2") + " A20=#CYCLE!"},
		{inLine(21), line(19, "2") + " A20=#CYCLE! A21=1 B21~0"},
		{inLine(22), line(19, "2") + " A20=#CYCLE! A21=1 B21~0 A22=1 B22~0"},
		// What reads the last one is a round behind it, and not given up with it.
		{inLine(20) + " | D1: =B20 | E1: =B20>5 | F1: =A20", "A1=1 B1~2 D1=0 E1=FALSE F1=#CYCLE! " + strings.TrimPrefix(line(19, "2"), "A1=1 B1~2 ") + " A20=#CYCLE!"},
	})
}

func TestCellsThatNeedThemselves(t *testing.T) {
	checkSheets(t, [][2]string{
		{"A1: =A1", "A1=#CYCLE!"}, {"A1: =$A$1+1", "A1=#CYCLE!"}, {"A1: =B1 | B1: =A1 | C1: =B1+1 | D1: =IFERROR(A1,7) | E1: 5", "A1=#CYCLE! B1=#CYCLE! C1=#CYCLE! D1=7 E1=5"}, {"A1: =B1 | B1: =C1 | C1: =D1 | D1: =B1", "A1=#CYCLE! B1=#CYCLE! C1=#CYCLE! D1=#CYCLE!"}, {"A1: =B1 | B1: =B1 | C1: =A1 | D1: =ISERROR(C1)", "A1=#CYCLE! B1=#CYCLE! C1=#CYCLE! D1=TRUE"},
		// What needs one that needs itself does not need itself.
		{"A1: =IFERROR(B1,1) | B1: =B1+A2 | A2: =A1", "A1=#CYCLE! B1=#CYCLE! A2=#CYCLE!"}, {"A1: =IFERROR(B1,1) | B1: =C1 | C1: =B1 | D1: =A1+1", "A1=1 B1=#CYCLE! C1=#CYCLE! D1=2"},
		// By areas, whichever way they are told.
		{"A3: =SUM(A1:A3) | A1: 1", "A1=1 A3=#CYCLE!"}, {"A3: =SUM(A1:A2) | A1: 1", "A1=1 A3=1"}, {"B2: =SUM(A1:C3)", "B2=#CYCLE!"}, {"B2: =SUM(C3:A1)", "B2=#CYCLE!"}, {"B2: =SUM(C1:A3)", "B2=#CYCLE!"}, {"A1: =SUM(B1:B9) | B5: =A1", "A1=#CYCLE! B5=#CYCLE!"}, {"A1: =ROWS(A1:GR1000)", "A1=#CYCLE!"}, {"A1: =ROWS(B1:GR1000) | B1: =A1", "A1=#CYCLE! B1=#CYCLE!"}, {"A1: =SUM(B1:B9) | C5: =A1", "A1=0 C5=0"},
		// Whether it is asked for or not.
		{"A1: =IF(TRUE,1,A1)", "A1=#CYCLE!"}, {"A1: =IFERROR(1,A1)", "A1=#CYCLE!"}, {"A1: =LET(f,LAMBDA(x,A1),1)", "A1=#CYCLE!"}, {"A1: =LET(a,1,2,A1,3)", "A1=#CYCLE!"}, {"A1: =IF(A1)", "A1=#CYCLE!"}, {"A1: =NOSUCH(A1)", "A1=#CYCLE!"}, {"A1: =IF(TRUE,1,B1) | B1: =A1", "A1=#CYCLE! B1=#CYCLE!"},
		// By names, and by names of names.
		{"A1: =N | N: =A1+1", "A1=#CYCLE!"}, {"A1: =n | N: =A1+1", "A1=#CYCLE!"}, {"A1: =P | P: =Q | Q: =A1", "A1=#CYCLE!"}, {"A1: =P | B1: =Q | P: =B1 | Q: =A1", "A1=#CYCLE! B1=#CYCLE!"}, {"A1: =P | P: =Q+1 | Q: =P+A1", "A1=#CYCLE!"}, {"A1: =P | P: =Q | Q: =P", "A1=#CYCLE!"}, {"A1: =IFERROR(P,3) | P: =Q | Q: =P", "A1=3"}, {"A1: =IF(TRUE,1,N) | N: =A1", "A1=#CYCLE!"}, {"A1: =1 | N: =A1 | B1: =N", "A1=1 B1=1"}, {"A1: =SUM(N) | N: =B1:B9 | B3: =A1", "A1=#CYCLE! B3=#CYCLE!"},
		// By names that are only called, or that mean something else there.
		{"A1: =G(1) | G: =LAMBDA(x,A1)", "A1=#CYCLE!"}, {"A1: =g(1) | G: =LAMBDA(x,h(x)) | H: =LAMBDA(x,A1)", "A1=#CYCLE!"}, {"A1: =G(1) | G: =5 | B1: =A1", "A1=#NAME? B1=#NAME?"}, {"A1: =LET(g,5,g) | G: =A1", "A1=#CYCLE!"}, {"A1: =LET(h,5,h) | G: =A1", "A1=5"}, {"A1: =LET(g,5,1) | G: =A1", "A1=#CYCLE!"}, {"A1: =LET(g,LAMBDA(x,x),g(3)) | G: =A1", "A1=#CYCLE!"}, {"A1: =MAP({1},LAMBDA(g,1)) | G: =A1", "A1=#CYCLE!"}, {"A1: =LAMBDA(g,1) | G: =B1 | B1: =A1", "A1=#CYCLE! B1=#CYCLE!"},
		// A name that is no formula, or not there, refers to nothing; so does a cell's text that is none.
		{"A1: =IFERROR(G,3) | G: =A1+", "A1=3"}, {"A1: =IFERROR(G,3)", "A1=3"}, {"A1: =A1+", "A1=#NAME?"}, {"A1: '=A1", `A1="=A1"`}, {"A1: A1", `A1="A1"`},
		// What is laid down is needed by none.
		{"A1: ={1,2} | A2: =B1 | C1: =A2", "A1=1 B1~2 C1=2 A2=2"}, {"A1: =HSTACK(1,A2) | A2: =IF(B1=0,5,6)", "A1=1 B1~6 A2=6"}, {"A1: =HSTACK(1,A2) | A2: =IF(B1=5,6,5)", "A1=#CYCLE! A2=#CYCLE!"}, {"A1: =HSTACK(1,A2) | A2: =IF(B1=0,5,5)", "A1=1 B1~5 A2=5"},
	})
}

// TestNeedsOfMany: each of all cells needs all of them, or those that stand above it.
func TestNeedsOfMany(t *testing.T) {
	s := impl.Sheet{Cells: manyCells(300, "=SUM(A1:T15)")}
	for _, shown := range impl.EvalSheet(s) {
		if shown.Value != errVal("#CYCLE!") {
			t.Fatalf("%v", shown)
		}
	}
	s.Cells[0].Text = "1"
	for i := 1; i < 300; i++ {
		s.Cells[i].Text = fmt.Sprintf("=1+MAX(A1:A%d)", max(1, s.Cells[i].Row-1))
	}
	list := impl.EvalSheet(s)
	wantValue(t, "the last of", "15 rows", impl.ValueAt(list, 15, 20), numVal("15"))
}
