package tests

import (
	"fmt"
	"math"
	"runtime"
	"slices"
	"testing"
	"time"

	"loop.example/g00025/impl"
)

// checkRecalc has sheets, changes, and what is shown then, whatever is told of before.
func checkRecalc(t *testing.T, recalc [][3]string) {
	t.Helper()
	for _, c := range recalc {
		s, changes := sheetOf(c[0]), changesOf(c[1])
		was, asked := cloned(s), slices.Clone(changes)
		list := impl.EvalSheet(s)
		wrong := slices.Clone(list)
		for i := range wrong {
			wrong[i].Value, wrong[i].From = numVal("77"), !wrong[i].From
		}
		turned := slices.Clone(list)
		slices.Reverse(turned)
		far := []impl.Shown{{Row: -1, Col: 1 << 40, Value: impl.Value{Kind: 9}}, {Row: 1, Col: 1, Value: wordsVal("no"), From: true}, {Row: 1, Col: 1}}
		for _, before := range [][]impl.Shown{list, nil, wrong, turned, far, list[:len(list)/2], append(slices.Clone(list), wrong...), impl.EvalSheet(impl.WithChanges(s, changes))} {
			told := slices.Clone(before)
			if got := listMarks(impl.Recalc(s, before, changes)); got != c[2] {
				t.Errorf("%s with %s, before %s\n shows %s\n want  %s", c[0], c[1], listMarks(before), got, c[2])
			}
			if !slices.Equal(told, before) {
				t.Errorf("%s with %s: before was written into", c[0], c[1])
			}
		}
		if got := listMarks(impl.EvalSheet(impl.WithChanges(s, changes))); got != c[2] {
			t.Errorf("%s with %s, from scratch\n shows %s\n want  %s", c[0], c[1], got, c[2])
		}
		if !sameSheets(s, was) || !slices.Equal(changes, asked) {
			t.Errorf("%s with %s was written into", c[0], c[1])
		}
	}
}

func TestRecalc(t *testing.T) {
	checkRecalc(t, [][3]string{
		{"", "", ""}, {"A1: 1", "", "A1=1"}, {"A1: 1", "A1: ", ""}, {"", "A1: 2 | B1: =A1*3", "A1=2 B1=6"},
		{"A1: =B1+1 | B1: =C1*2 | C1: 5 | D1: x", "C1: 7", `A1=15 B1=14 C1=7 D1="x"`}, {"A1: =B1+1 | B1: =C1*2 | C1: 5", "B1: ", "A1=1 C1=5"}, {"A1: =B1+1 | B1: =C1*2 | C1: 5", "C1:  | B1: =C1&\"!\"", `A1=#VALUE! B1="!"`}, {"A1: =SUM(B1:B9) | B1: 1", "B5: 4 | B1: 2 | B9: =B5", "A1=10 B1=2 B5=4 B9=4"}, {"A1: =SUM(N) | B1: 1 | N: =B1:B3", "B2: 5 | B1: ", "A1=5 B2=5"}, {"A1: =f(2) | B1: 1 | F: =LAMBDA(x,x+B1)", "B1: 3", "A1=5 B1=3"},
		// Into a cycle and out of it.
		{"A1: =B1 | B1: 1 | C1: =A1", "B1: =A1", "A1=#CYCLE! B1=#CYCLE! C1=#CYCLE!"}, {"A1: =B1 | B1: =A1 | C1: =A1+1", "B1: 4", "A1=4 B1=4 C1=5"}, {"A1: =B1 | B1: =A1 | C1: =A1+1", "B1: ", "A1=0 C1=1"}, {"A1: =B1 | B1: =C1 | C1: 1 | D1: =IFERROR(C1,9)", "C1: =A1", "A1=#CYCLE! B1=#CYCLE! C1=#CYCLE! D1=9"}, {"A1: =A1+B1 | B1: 1 | C1: =IFERROR(A1,B1)", "B1: 2", "A1=#CYCLE! B1=2 C1=2"},
		// Formulas that are none, and that become some.
		{"A1: =B1+ | B1: 1", "A1: =B1+1", "A1=2 B1=1"}, {"A1: =B1+1 | B1: 1", "A1: =B1+", "A1=#NAME? B1=1"}, {"A1: =N | N: =B1+", "B1: 3", "A1=#NAME? B1=3"},
	})
}

func TestRecalcOfWhatIsLaidDown(t *testing.T) {
	checkRecalc(t, [][3]string{
		// It is laid down no more, newly, elsewhere, further, less far.
		{"A1: ={1,2}", "A1: 5", "A1=5"}, {"A1: 5", "A1: ={1,2}", "A1=1 B1~2"}, {"A1: ={1,2}", "A1: ={1;2}", "A1=1 A2~2"}, {"A1: =SEQUENCE(B1) | B1: 2", "B1: 3", "A1=1 B1=3 A2~2 A3~3"}, {"A1: =SEQUENCE(B1) | B1: 3", "B1: 1", "A1=1 B1=1"}, {"A1: ={1,2}", "A1: ", ""},
		// A text comes into its way, or goes out of it; one comes or goes beside it.
		{"A1: ={1,2}", "B1: x", `A1=#SPILL! B1="x"`}, {"A1: ={1,2} | B1: x", "B1: ", "A1=1 B1~2"}, {"A1: ={1,2} | C1: =A1 | A2: =B1 | B1: x", "B1: ", "A1=1 B1~2 C1=1 A2=2"}, {"A1: ={1,2} | C1: 3", "C1: ", "A1=1 B1~2"},
		// What is laid down reaches those that do not need its cell.
		{"A1: ={1,2} | A2: =B1*10 | A3: =A2", "A1: ={1,3}", "A1=1 B1~3 A2=30 A3=30"}, {"A1: ={1,2} | A2: =B1*10", "A1: 1", "A1=1 A2=0"}, {"A1: =HSTACK(1,C1) | C1: 2 | A2: =SUM(B1)", "C1: 5", "A1=1 B1~5 C1=5 A2=5"},
		// Two that come upon each other: the earlier one has the cell.
		{"B1: 1 | A2: ={5,6}", "B1: ={1;2}", "B1=1 A2=#SPILL! B2~2"}, {"B1: ={1;2} | A2: ={5,6}", "B1: 1", "B1=1 A2=5 B2~6"}, {"A2: ={5,6} | C1: 0", "B1: ={1;2} | C1: ", "B1=1 A2=#SPILL! B2~2"},
		// In several rounds.
		{"A1: ={1;2} | B1: =A1:A3*2 | C1: =B1:B3+1", "A1: ={1;2;3}", "A1=1 B1=2 C1=3 A2~2 B2~4 C2~5 A3~3 B3~6 C3~7"}, {"A1: =HSTACK(1,MIN(B1+1,C1)) | C1: 3", "C1: 9", "A1=1 B1~9 C1=9"},
		// Without an end, before and after.
		{"A1: =HSTACK(1,MIN(B1+1,C1)) | C1: 3", "C1: 20", "A1=#CYCLE! C1=20"}, {"A1: =HSTACK(1,MIN(B1+1,C1)) | C1: 20", "C1: 19", "A1=1 B1~19 C1=19"}, {"A1: =HSTACK(1,NOT(B1)) | C1: 1", "C1: =B1", "A1=#CYCLE! C1=#CYCLE!"}, {"A1: =IF(ISBLANK(B1),{1,2},5) | C1: =A1", "B1: 3", "A1=5 B1=3 C1=5"}, {"A1: =IF(ISBLANK(B1),{1,2},5) | B1: 3", "B1: ", "A1=#CYCLE!"}, {"A1: =HSTACK(1,NOT(B3)) | A2: =HSTACK(1,B1)", "A3: =HSTACK(1,B2)", "A1=1 B1~TRUE A2=#CYCLE! A3=1 B3~0"},
	})
}

// TestManyLevels: 300 cells, of which each needs the one ahead of it, all ahead of it, the first one or names; told from above and from below.
func TestManyLevels(t *testing.T) {
	places := []func(n int) int{func(n int) int { return n }, func(n int) int { return 301 - n }}
	forms := []func(place func(n int) int, n int) string{
		func(place func(n int) int, n int) string { return fmt.Sprintf("=1+A%d", place(n-1)) },
		func(place func(n int) int, n int) string { return fmt.Sprintf("=1+SUM(A%d:A%d)", place(1), place(n-1)) },
		func(place func(n int) int, n int) string { return fmt.Sprintf("=A%d+A%d", place(1), place((n+1)/2)) },
		func(_ func(n int) int, n int) string { return fmt.Sprintf("=%d+N_%03d", n, n%40) },
	}
	for _, place := range places {
		for kind, form := range forms {
			s := impl.Sheet{Cells: manyCells(300, ""), Names: manyNames(40, fmt.Sprintf("=A%d", place(1)))}
			for n := 1; n <= 300; n++ {
				s.Cells[place(n)-1] = impl.Cell{Row: place(n), Col: 1, Text: form(place, max(n, 2))}
			}
			s.Cells[place(1)-1].Text = "1"
			changes := []impl.Change{{Row: place(1), Col: 1, Text: "2"}}
			before, want := impl.EvalSheet(s), impl.EvalSheet(impl.WithChanges(s, changes))
			if len(before) != 300 || len(want) != 300 || len(impl.Touched(s, changes)) != 300 || len(impl.Order(s)) != 300 {
				t.Fatalf("kind %d: %d and %d are shown", kind, len(before), len(want))
			}
			for range 5 {
				if got := impl.Recalc(s, before, changes); !slices.Equal(got, want) {
					t.Fatalf("kind %d: %s\n want %s", kind, listMarks(got), listMarks(want))
				}
			}
		}
	}
}

// TestWorkersHaveEnded: when a call has answered nothing of it is going on.
func TestWorkersHaveEnded(t *testing.T) {
	s := impl.Sheet{Cells: manyCells(300, "=SUM(SEQUENCE(50))")}
	ahead := runtime.NumGoroutine()
	for range 20 {
		impl.Recalc(s, nil, []impl.Change{{Row: 1, Col: 1, Text: "1"}})
	}
	// One that has done its work may still be counted for a moment.
	for range 1000 {
		if runtime.NumGoroutine() <= ahead {
			return
		}
		time.Sleep(time.Millisecond)
	}
	t.Errorf("%d are going on, %d ahead", runtime.NumGoroutine(), ahead)
}

func shownAt(row, col int, v impl.Value, from bool) impl.Shown {
	return impl.Shown{Row: row, Col: col, Value: v, From: from}
}

func wantDiffer(t *testing.T, a, b, want []impl.Shown) {
	t.Helper()
	wasA, wasB := slices.Clone(a), slices.Clone(b)
	if got := impl.Differ(a, b); !slices.Equal(got, want) {
		t.Errorf("Differ(%v, %v)\n is   %v\n want %v", a, b, got, want)
	}
	if !slices.Equal(a, wasA) || !slices.Equal(b, wasB) {
		t.Errorf("Differ(%v, %v) wrote into a list", wasA, wasB)
	}
}

func TestDiffer(t *testing.T) {
	one, two, none := numVal("1"), numVal("2"), shownAt(3, 3, empty, false)
	at := func(v impl.Value, from bool) []impl.Shown { return []impl.Shown{shownAt(3, 3, v, from)} }
	for _, c := range []struct{ a, b, want []impl.Shown }{
		{nil, nil, nil}, {[]impl.Shown{}, nil, nil}, {at(one, true), at(one, true), nil}, {at(one, false), at(one, false), nil},
		// In the value, by kind and by what it is; in From.
		{at(one, true), at(two, true), at(two, true)}, {at(one, true), at(wordsVal("1"), true), at(wordsVal("1"), true)}, {at(wordsVal("a"), true), at(wordsVal("A"), true), at(wordsVal("A"), true)}, {at(numVal("0"), true), at(empty, true), at(empty, true)}, {at(wordsVal(""), true), at(empty, true), at(empty, true)}, {at(no, true), at(numVal("0"), true), at(numVal("0"), true)}, {at(errVal("#N/A"), true), at(errVal("#NUM!"), true), at(errVal("#NUM!"), true)}, {at(wordsVal("#N/A"), true), at(errVal("#N/A"), true), at(errVal("#N/A"), true)}, {at(one, true), at(one, false), at(one, false)}, {at(one, false), at(two, true), at(two, true)},
		// A place that a list does not have.
		{nil, at(one, true), at(one, true)}, {nil, at(one, false), at(one, false)}, {at(one, true), nil, []impl.Shown{none}}, {at(one, false), nil, []impl.Shown{none}}, {at(empty, false), nil, nil}, {nil, at(empty, false), nil}, {at(empty, true), nil, []impl.Shown{none}}, {nil, at(empty, true), at(empty, true)}, {at(empty, true), at(empty, false), at(empty, false)},
		// Values that are not good are what they are.
		{at(impl.Value{Kind: 9}, true), at(impl.Value{Kind: 9}, true), nil}, {at(impl.Value{Text: "x"}, false), nil, []impl.Shown{none}}, {nil, at(impl.Value{Text: "x"}, false), at(impl.Value{Text: "x"}, false)}, {at(impl.Value{Kind: impl.ValNum, Num: impl.Dec{Digits: 10}}, true), at(impl.Value{Kind: impl.ValNum, Num: impl.Dec{Digits: 1, Exp: 1}}, true), at(impl.Value{Kind: impl.ValNum, Num: impl.Dec{Digits: 1, Exp: 1}}, true)},
	} {
		wantDiffer(t, c.a, c.b, c.want)
	}
}

// TestDifferInOrder: what differs rises by row, then column, whichever list has it.
func TestDifferInOrder(t *testing.T) {
	one, two := numVal("1"), numVal("2")
	a := []impl.Shown{shownAt(1, 1, one, true), shownAt(1, 9, one, true), shownAt(2, 2, one, true), shownAt(5, 1, one, false), shownAt(9, 9, one, true)}
	b := []impl.Shown{shownAt(1, 2, two, false), shownAt(1, 9, two, true), shownAt(2, 1, two, true), shownAt(2, 2, one, true), shownAt(5, 1, one, true), shownAt(7, 3, two, true)}
	wantDiffer(t, a, b, []impl.Shown{shownAt(1, 1, empty, false), b[0], b[1], b[2], b[4], b[5], shownAt(9, 9, empty, false)})
	wantDiffer(t, b, a, []impl.Shown{a[0], shownAt(1, 2, empty, false), a[1], shownAt(2, 1, empty, false), a[3], shownAt(7, 3, empty, false), a[4]})
	wantDiffer(t, a, a, nil)
	wantDiffer(t, a, nil, []impl.Shown{shownAt(1, 1, empty, false), shownAt(1, 9, empty, false), shownAt(2, 2, empty, false), shownAt(5, 1, empty, false), shownAt(9, 9, empty, false)})
	wantDiffer(t, nil, b, b)
	// Any numbers are places here.
	far := []impl.Shown{shownAt(math.MinInt, math.MaxInt, one, true), shownAt(-1, math.MinInt, one, true), shownAt(-1, 0, one, true), shownAt(0, -5, one, true), shownAt(0, 0, one, true), shownAt(1001, 201, one, true), shownAt(math.MaxInt, math.MinInt, one, true), shownAt(math.MaxInt, math.MaxInt, one, true)}
	wantDiffer(t, nil, far, far)
	wantDiffer(t, far[:3], far, far[3:])
	wantDiffer(t, far, far[1:], []impl.Shown{shownAt(math.MinInt, math.MaxInt, empty, false)})
	wantDiffer(t, a, far, slices.Concat(far[:5], []impl.Shown{shownAt(1, 1, empty, false), shownAt(1, 9, empty, false), shownAt(2, 2, empty, false), shownAt(5, 1, empty, false), shownAt(9, 9, empty, false)}, far[5:]))
}

func TestListsThatDoNotRise(t *testing.T) {
	one := numVal("1")
	good := []impl.Shown{shownAt(1, 1, one, true), shownAt(4, 4, one, true)}
	for _, p := range [][4]int{{2, 1, 1, 1}, {1, 2, 1, 1}, {1, 1, 1, 1}, {2, 1, 1, 2}, {0, 0, -1, 5}, {3, 0, 3, -1}, {math.MaxInt, 0, math.MinInt, 0}, {0, math.MaxInt, 0, math.MinInt}} {
		bad := []impl.Shown{shownAt(p[0], p[1], one, true), shownAt(p[2], p[3], numVal("2"), false)}
		empties := []impl.Shown{shownAt(p[0], p[1], empty, false), shownAt(p[2], p[3], empty, false)}
		long := append(slices.Clone(bad), shownAt(math.MaxInt, math.MaxInt, one, true))
		for _, list := range [][]impl.Shown{bad, empties, long} {
			wantDiffer(t, list, nil, nil)
			wantDiffer(t, nil, list, nil)
			wantDiffer(t, list, good, nil)
			wantDiffer(t, good, list, nil)
			wantDiffer(t, list, list, nil)
		}
	}
	last := append(slices.Clone(good), shownAt(9, 9, one, true), shownAt(9, 9, one, true))
	wantDiffer(t, good, last, nil)
	wantDiffer(t, last, good, nil)
}

// TestChangesAreNewMemory writes into answers and arguments, and asks again.
func TestChangesAreNewMemory(t *testing.T) {
	s, changes := sheetOf("A1: 1 | B1: =A1 | C1: =N | N: =B1"), changesOf("A1: 2 | D1: 3")
	list := impl.EvalSheet(s)
	told := func() string {
		after := impl.WithChanges(s, changes)
		shown := impl.Recalc(s, list, changes)
		return fmt.Sprint(after, impl.WithChanges(s, nil), impl.Links(s), impl.Order(s), impl.InCycle(s), impl.Touched(s, changes), shown, impl.Differ(list, shown), impl.Differ(nil, list))
	}
	want := told()
	for _, after := range []impl.Sheet{impl.WithChanges(s, nil), impl.WithChanges(s, changes)} {
		for i := range after.Cells {
			after.Cells[i] = impl.Cell{}
		}
		after.Names[0] = impl.Named{}
		_ = append(after.Cells, impl.Cell{Row: 9}, impl.Cell{Row: 9})
	}
	clear(impl.Links(s))
	clear(impl.Order(s))
	clear(impl.InCycle(s))
	clear(impl.Touched(s, changes))
	clear(impl.Recalc(s, list, changes))
	clear(impl.Recalc(s, list, nil))
	clear(impl.Differ(nil, list))
	if got := told(); got != want {
		t.Errorf("%s\n want %s", got, want)
	}
	after, differ := impl.WithChanges(s, nil), impl.Differ(nil, list)
	toldOnce := fmt.Sprint(after, differ)
	clear(s.Cells)
	clear(s.Names)
	clear(list)
	if got := fmt.Sprint(after, differ); got != toldOnce {
		t.Errorf("%s\n want %s", got, toldOnce)
	}
}
