package tests

import (
	"runtime"
	"slices"
	"testing"

	"loop.example/g00025/impl"
)

func wantLeft(t *testing.T, what any, list, by, wantList, wantBy []impl.Do) {
	t.Helper()
	wasList, wasBy := slices.Clone(list), slices.Clone(by)
	p, q := impl.TransformAll(list, by)
	if !slices.Equal(p, wantList) || !slices.Equal(q, wantBy) {
		t.Errorf("%.300v\n leaves %.300s\n    and %.300s\n want   %.300s\n    and %.300s", what, toldDos(p), toldDos(q), toldDos(wantList), toldDos(wantBy))
	}
	if !slices.Equal(list, wasList) || !slices.Equal(by, wasBy) {
		t.Errorf("%.300v was written into", what)
	}
}

// checkLeft has two lists, and what is left of each.
func checkLeft(t *testing.T, lists [][4]string) {
	t.Helper()
	for _, c := range lists {
		wantLeft(t, c[:2], dosOf(c[0]), dosOf(c[1]), dosOf(c[2]), dosOf(c[3]))
	}
}

func TestTransformAll(t *testing.T) {
	checkLeft(t, [][4]string{
		{"", "", "", ""}, {"1 A1: x", "", "1 A1: x", ""}, {"", "2 +rows 1 1 / nothing / 2 A1: = a1", "", "2 +rows 1 1 / nothing / 2 A1: = a1"}, {"nothing", "nothing", "nothing", "nothing"}, {"nothing / 1 A1: x", "nothing", "nothing / 1 A1: x", "nothing"},
		{"1 A3: x", "2 A3: y", "1 A3: x", "nothing"}, {"2 A3: x", "1 A3: y", "nothing", "1 A3: y"}, {"1 A3: x", "1 A3: y", "nothing", "nothing"}, {"1 A3: =A9", "2 +rows 2 1", "1 A4: =A10", "2 +rows 2 1"}, {"1 +rows 3 2", "2 +rows 3 1", "1 +rows 3 2", "2 +rows 5 1"}, {"1 +rows 4 1", "2 -rows 3 2", "nothing", "2 -rows 3 3"},
		// The one of the given test.
		{"1 +rows 2 1 / 1 A2: new", "2 -rows 1 1 / 2 A2: =A1", "1 +rows 1 1 / 1 A1: new", "2 -rows 1 1 / 2 A3: =A2"},
		// One by all of the other list, in turn.
		{"1 A5: =A5", "2 +rows 2 1 / 2 -rows 1 1 / 2 +cols 1 2", "1 C5: =C5", "2 +rows 2 1 / 2 -rows 1 1 / 2 +cols 1 2"}, {"1 +rows 5 1", "2 +rows 1 3 / 2 -rows 2 4", "1 +rows 4 1", "2 +rows 1 3 / 2 -rows 2 4"}, {"1 A3: x", "2 A4: y / 2 +rows 1 1 / 2 A4: z", "1 A4: x", "2 A4: y / 2 +rows 1 1 / nothing"},
	})
}

// TestTransformAllInTurn has lists of which each operation must be met by what the ones ahead of it left of the others.
func TestTransformAllInTurn(t *testing.T) {
	checkLeft(t, [][4]string{
		// The second of list is behind its own first: there by's first stands elsewhere.
		{"1 +rows 1 5 / 1 A6: x", "2 A1: y", "1 +rows 1 5 / 1 A6: x", "nothing"}, {"1 +rows 1 5 / 1 A1: x", "2 A1: y", "1 +rows 1 5 / 1 A1: x", "2 A6: y"}, {"1 -rows 1 2 / 1 -rows 1 2", "2 -rows 2 2", "1 -rows 1 1 / 1 -rows 1 1", "nothing"}, {"1 -rows 1 2 / 1 +rows 1 3", "2 -rows 1 3", "nothing / 1 +rows 1 3", "2 -rows 4 1"},
		// What is put in where the other one deletes is gone, and what is set there.
		{"1 +rows 4 1 / 1 A4: x / 1 A5: y / 1 A7: z", "2 -rows 3 3", "nothing / nothing / nothing / 1 A3: z", "2 -rows 3 4"}, {"2 -rows 3 3", "1 +rows 4 1 / 1 A4: x / 1 A5: y / 1 A7: z", "2 -rows 3 4", "nothing / nothing / nothing / 1 A3: z"}, {"1 +rows 3 1 / 1 A3: x / 1 A4: y", "2 -rows 3 3", "1 +rows 3 1 / 1 A3: x / nothing", "2 -rows 4 3"}, {"1 +rows 6 1 / 1 A6: x / 1 A5: y", "2 -rows 3 3", "1 +rows 3 1 / 1 A3: x / nothing", "2 -rows 3 3"}, {"1 +rows 4 1 / 1 -rows 4 1", "2 -rows 3 3", "nothing / nothing", "2 -rows 3 3"}, {"1 +rows 4 1 / 1 +rows 4 1 / 1 A4: x", "2 -rows 3 3 / 2 A3: y", "nothing / nothing / nothing", "2 -rows 3 5 / 2 A3: y"},
		// A set that is nothing by one of the others does not count for the next one.
		{"2 A1: x / 2 B1: y", "1 A1: u / 1 B1: v / 1 A1: w", "nothing / nothing", "1 A1: u / 1 B1: v / 1 A1: w"}, {"1 A1: x / 1 A1: y", "2 A1: u / 2 A1: v", "1 A1: x / 1 A1: y", "nothing / nothing"}, {"1 A1: x", "0 A1: u / 2 A1: v", "nothing", "0 A1: u / 2 A1: v"}, {"1 A1: x", "2 A1: v / 0 A1: u", "nothing", "nothing / 0 A1: u"},
		// Rows at one place, by both.
		{"1 +rows 3 1 / 1 A3: x", "2 +rows 3 2 / 2 A3: y / 2 A4: z", "1 +rows 3 1 / 1 A3: x", "2 +rows 4 2 / 2 A4: y / 2 A5: z"}, {"2 +rows 3 1 / 2 A3: x", "1 +rows 3 2 / 1 A3: y / 1 A4: z", "2 +rows 5 1 / 2 A5: x", "1 +rows 3 2 / 1 A3: y / 1 A4: z"}, {"1 +rows 3 1 / 1 +rows 3 1", "2 +rows 3 1 / 2 +rows 3 1", "1 +rows 3 1 / 1 +rows 3 1", "2 +rows 5 1 / 2 +rows 5 1"},
	})
}

// longSide has so many operations: rows put in one behind the other, each with a text.
func longSide(who, many int) []impl.Do {
	var out []impl.Do
	for n := range many {
		out = append(out, turnDo(who, rowsIn(1+n/2, 1)), setDo(who, 1+n/2, who, "x"))
	}
	return out[:many]
}

func TestTransformLongLists(t *testing.T) {
	for _, n := range []int{0, 1, 19, 20} {
		for _, m := range []int{0, 1, 19, 20} {
			a, b := longSide(1, n), longSide(2, m)
			p, q := walkedAll(a, b)
			wantLeft(t, []int{n, m}, a, b, p, q)
		}
	}
	for _, n := range []int{21, 22, 100, 5000} {
		for _, m := range []int{0, 1, 20, 21} {
			wantLeft(t, []int{n, m}, longSide(1, n), longSide(2, m), nil, nil)
			wantLeft(t, []int{m, n}, longSide(1, m), longSide(2, n), nil, nil)
		}
		// Nothing counts, too.
		wantLeft(t, n, make([]impl.Do, n), nil, nil, nil)
		wantLeft(t, n, nil, make([]impl.Do, n), nil, nil)
	}
	wantLeft(t, "nothing", make([]impl.Do, 20), make([]impl.Do, 20), make([]impl.Do, 20), make([]impl.Do, 20))
}

func TestTransformListsThatAreNotGood(t *testing.T) {
	good := dosOf("1 A1: x / nothing / 1 +rows 2 1")
	for _, bad := range noDos() {
		for at := range 4 {
			list := slices.Insert(slices.Clone(good), at, bad)
			for _, other := range [][]impl.Do{nil, good, list} {
				wantLeft(t, bad, list, other, nil, nil)
				wantLeft(t, bad, other, list, nil, nil)
			}
		}
	}
	// Where it would be left out by others, too.
	gone := append(longSide(1, 19), setDo(1, 1, 1, "\x00"))
	wantLeft(t, "the last one", gone, dosOf("2 -rows 1 100"), nil, nil)
	wantLeft(t, "the last one", dosOf("2 -rows 1 100"), gone, nil, nil)
}

// TestTransformAllAgain asks with as many workers as one and more: the outcome is one.
func TestTransformAllAgain(t *testing.T) {
	before := runtime.GOMAXPROCS(0)
	defer runtime.GOMAXPROCS(before)
	a, b := append(longSide(1, 19), setDo(1, 1, 1, "=A9+$B$3")), append(longSide(2, 18), turnDo(2, rowsOut(3, 4)), turnDo(2, colsIn(1, 1)))
	p, q := walkedAll(a, b)
	s := sheetOf("A1: =B9 | B9: 2 | N: =A1")
	x, y := impl.Converged(s, a, b)
	for _, procs := range []int{1, 2, 8} {
		runtime.GOMAXPROCS(procs)
		goroutines := runtime.NumGoroutine()
		for range 40 {
			wantLeft(t, procs, a, b, p, q)
			if u, v := impl.Converged(s, a, b); !sameSheets(u, x) || !sameSheets(v, y) {
				t.Errorf("%s, %s\n and then %s, %s", toldSheet(x), toldSheet(y), toldSheet(u), toldSheet(v))
			}
		}
		// All workers have come to their end; the scheduler may still be about to see that.
		for range 1000 {
			if runtime.NumGoroutine() <= goroutines {
				break
			}
			runtime.Gosched()
		}
		if n := runtime.NumGoroutine(); n > goroutines+5 {
			t.Errorf("%d goroutines, then %d", goroutines, n)
		}
	}
}

func wantConverged(t *testing.T, what any, s impl.Sheet, a, b []impl.Do, wantX, wantY impl.Sheet) {
	t.Helper()
	was, wasA, wasB := cloned(s), slices.Clone(a), slices.Clone(b)
	x, y := impl.Converged(s, a, b)
	if !sameSheets(x, wantX) || !sameSheets(y, wantY) {
		t.Errorf("%.300v\n comes to %.300s\n      and %.300s\n want     %.300s\n      and %.300s", what, toldSheet(x), toldSheet(y), toldSheet(wantX), toldSheet(wantY))
	}
	if !sameSheets(s, was) || !slices.Equal(a, wasA) || !slices.Equal(b, wasB) {
		t.Errorf("%.300v was written into", what)
	}
}

func TestConverged(t *testing.T) {
	for _, c := range [][4]string{
		{"A1: =a2 | N: = a1", "", "", "A1: =a2 | N: = a1"}, {"", "", "", ""}, {"A1: =a2", "nothing", "nothing / nothing", "A1: =a2"}, {"A1: 1", "1 A1: 2", "", "A1: 2"}, {"A1: 1", "", "1 A1: 2", "A1: 2"}, {"A1: 1", "1 A1: ", "2 A1: ", ""},
		{"A1: 1 | A3: 7", "1 A3: x", "2 A3: y", "A1: 1 | A3: x"}, {"A1: 1 | A3: 7", "2 A3: x", "1 A3: y", "A1: 1 | A3: y"}, {"A1: 1 | A3: 7", "1 A3: ", "2 A3: y", "A1: 1"}, {"A1: 1 | A3: 7", "2 A3: ", "1 A3: y", "A1: 1 | A3: y"},
		// The one of the given test.
		{"A1: =A3+1 | A3: 7", "1 +rows 2 1 / 1 A2: new", "2 -rows 1 1 / 2 A2: =A1", "A1: new | A3: =A2"},
		// Rows and columns at once; formulas of names go along.
		{"B2: =C3 | C3: 3 | N: =B2*$C$3", "1 +rows 3 1 / 1 +cols 1 1", "2 -cols 3 1 / 2 B2: =B3", "C2: =C4 | N: =C2*#REF!"}, {"B2: =C3 | C3: 3 | N: =B2*$C$3", "1 +rows 1 2", "2 +cols 3 1 / 2 A1: =N+D3", "B4: =D5 | D5: 3 | A3: =N+D5 | N: =B4*$D$5"},
		// What is put in where the other one deletes.
		{"A1: =A4 | A3: 3 | A4: 4 | A5: 5 | A6: =A5", "1 +rows 4 2 / 1 A4: new / 1 A5: =A4", "2 -rows 3 3 / 2 A3: =A1", "A1: =#REF! | A3: =A1"}, {"A1: =A4 | A3: 3 | A4: 4 | A6: =A3", "1 +rows 3 2 / 1 A3: new / 1 A4: =A5", "2 -rows 3 3", "A1: =#REF! | A3: new | A4: =#REF! | A5: =#REF!"}, {"A3: 3 | A4: 4 | A6: 6", "1 -rows 3 3 / 1 -rows 3 1", "2 +rows 5 1 / 2 A5: new / 2 A7: six", ""}, {"A3: 3 | A4: 4 | A6: 6", "1 -rows 3 3", "2 +rows 6 1 / 2 A6: new / 2 A7: six", "A3: new | A4: six"},
		{"A1: 1 | A2: 2 | A3: 3 | A4: 4", "1 -rows 2 2", "2 -rows 3 2", "A1: 1"}, {"A1: 1 | A2: 2 | A3: 3 | A4: 4", "1 -rows 2 2 / 1 A2: x", "2 -rows 1 3 / 2 A1: y", "A1: x"}, {"A1: =A2 | A2: 2", "1 +rows 2 1 / 1 A2: a", "2 +rows 2 1 / 2 A2: b", "A1: =A4 | A2: a | A3: b | A4: 2"}, {"A1: =A2 | A2: 2", "9 +rows 2 1 / 9 A2: a", "2 +rows 2 1 / 2 A2: b", "A1: =A4 | A2: b | A3: a | A4: 2"},
	} {
		s, a, b, want := sheetOf(c[0]), dosOf(c[1]), dosOf(c[2]), sheetOf(c[3])
		wantConverged(t, c, s, a, b, want, want)
		wantConverged(t, c, s, b, a, want, want)
	}
	// Of one person's the ones that come first stand, on either side.
	s := sheetOf("A1: 1 | A3: 7")
	wantConverged(t, "one person", s, dosOf("1 A3: x"), dosOf("1 A3: y"), sheetOf("A1: 1 | A3: x"), sheetOf("A1: 1 | A3: y"))
	wantConverged(t, "one person", s, dosOf("1 +rows 3 1 / 1 A3: x"), dosOf("1 +rows 3 1 / 1 A3: y"), sheetOf("A1: 1 | A3: x | A5: 7"), sheetOf("A1: 1 | A3: y | A5: 7"))
	// An area may be another one: what is put in at its end and what is deleted there do not go with each other.
	wantConverged(t, "an area", sheetOf("A1: =SUM(A3:A5)"), dosOf("1 +rows 5 1"), dosOf("2 -rows 5 1"), sheetOf("A1: =SUM(A3:A5)"), sheetOf("A1: =SUM(A3:A4)"))
}

// TestConvergedOnTheWay: each side by itself is none where a sheet on its way is not good.
func TestConvergedOnTheWay(t *testing.T) {
	full := impl.Sheet{Cells: manyCells(300, "1"), Names: manyNames(40, "=A1")}
	less := impl.Sheet{Cells: full.Cells[:299], Names: full.Names}
	for _, c := range []struct {
		s    impl.Sheet
		a, b string
		// x and y are whether there is a sheet in the end, on either side.
		x, y bool
	}{
		{full, "1 A1: 2", "2 B1: 2", true, true}, {full, "1 A1: ", "2 A16: 2", true, false}, {full, "1 A16: 2", "2 A1: ", false, true}, {full, "1 A16: 2", "2 A1: 2", false, false}, {full, "1 A16: 2", "", false, false}, {full, "", "2 A16: 2", false, false},
		{less, "1 A16: 2", "2 B16: 2", false, false}, {less, "1 A16: 2", "2 A16: 3", true, true}, {less, "1 A16: 2 / 1 A1: ", "2 B16: 2", true, false}, {less, "1 A16: 2", "2 B16: 2 / 2 A1: ", false, true},
		// Good again at the end is not enough.
		{full, "1 A16: 2 / 1 A16: ", "2 A1: 2", false, false}, {full, "1 A16: 2 / 1 -rows 1 9", "", false, false}, {full, "1 -rows 1 9", "2 A16: 2 / 2 B16: 3", true, false}, {full, "1 -rows 1 16", "2 A17: 2", true, false}, {full, "1 -rows 1 16", "2 A16: 2", true, false},
		// A sheet of nothing on its way is a good one.
		{sheetOf("A1: 1"), "1 A1: ", "2 B1: 2", true, true}, {sheetOf("A1: 1"), "1 -rows 1 1 / 1 A1: x", "2 -rows 1 9", true, true},
	} {
		a, b := dosOf(c.a), dosOf(c.b)
		p, q := impl.TransformAll(a, b)
		x, isX := walkedWay(c.s, slices.Concat(a, q))
		y, isY := walkedWay(c.s, slices.Concat(b, p))
		if isX != c.x || isY != c.y {
			t.Errorf("%d cells, %s and %s: %v, %v", len(c.s.Cells), c.a, c.b, isX, isY)
		}
		wantConverged(t, []string{c.a, c.b}, c.s, a, b, x, y)
	}
}

func TestConvergedWhereSomethingIsNotGood(t *testing.T) {
	s, good := sheetOf("A1: 1 | N: =A1"), dosOf("1 A1: x / nothing / 1 +rows 2 1")
	none := impl.Sheet{}
	for i, bad := range noDos() {
		list := slices.Insert(slices.Clone(good), i%4, bad)
		for _, other := range [][]impl.Do{nil, good, list} {
			wantConverged(t, bad, s, list, other, none, none)
			wantConverged(t, bad, s, other, list, none, none)
		}
	}
	for _, s := range append(noSheets(), sheetOf("A1: 1 | SUM: =1"), sheetOf("A1: 1 | n: =1"), sheetOf("A1: 1 | N: 1")) {
		wantConverged(t, s, s, nil, nil, none, none)
		wantConverged(t, s, s, good, dosOf("2 B1: y"), none, none)
		wantConverged(t, s, s, dosOf("1 -rows 1 100"), nil, none, none)
	}
	for _, n := range []int{21, 100} {
		wantConverged(t, n, s, longSide(1, n), nil, none, none)
		wantConverged(t, n, s, nil, longSide(1, n), none, none)
		wantConverged(t, n, s, make([]impl.Do, n), good, none, none)
	}
	wantConverged(t, 20, s, make([]impl.Do, 20), make([]impl.Do, 20), s, s)
	for _, s := range goodSheets() {
		wantConverged(t, s, s, nil, nil, s, s)
		wantConverged(t, s, s, dosOf("nothing"), nil, s, s)
	}
}

func wantInverse(t *testing.T, what any, s impl.Sheet, d impl.Do, want []impl.Do) {
	t.Helper()
	was := cloned(s)
	if got := impl.Inverse(s, d); !slices.Equal(got, want) {
		t.Errorf("%.200v, %.200s\n is taken back by %.300s\n want             %.300s", what, toldDo(d), toldDos(got), toldDos(want))
	}
	if !sameSheets(s, was) {
		t.Errorf("%.200v, %.200s: the sheet was written into", what, toldDo(d))
	}
}

// checkBack asks that an operation that may be done, and what takes it back, leave the cells as they were.
func checkBack(t *testing.T, s impl.Sheet, d impl.Do) {
	t.Helper()
	back := impl.Inverse(s, d)
	after, good := walkedWay(s, append([]impl.Do{d}, back...))
	if !good || !slices.Equal(after.Cells, s.Cells) {
		t.Errorf("%s\n by %s and back by %.500s\n is %s", toldSheet(s), toldDo(d), toldDos(back), toldSheet(after))
	}
}

func TestInverse(t *testing.T) {
	for _, c := range [][3]string{
		// Of a set the text that was there, as it was.
		{"A1: =A3+1 | A3: 7", "1 A3: 9", "1 A3: 7"}, {"A1: = a3 | A3: 7", "5 A1: 9", "5 A1: = a3"}, {"A1: 1", "1 A1: ", "1 A1: 1"}, {"A1: 1", "0 A1: 1", "0 A1: 1"}, {"A1: 1", "99 B1: 2", "99 B1: "}, {"A1: 1", "1 B1: ", "1 B1: "}, {"", "1 GR1000: x", "1 GR1000: "},
		// Of rows and columns put in.
		{"A1: 1", "1 +rows 1 3", "1 -rows 1 3"}, {"A1: =A5+$B9 | A5: 1 | B9: 2", "7 +rows 2 100", "7 -rows 2 100"}, {"A1: 1 | B1: =A1", "1 +cols 2 1", "1 -cols 2 1"}, {"", "1 +rows 901 100", "1 -rows 901 100"},
		// What is pushed beyond comes back, and what is meant by it.
		{"A1: 1 | A1000: x | B999: =a1 | A2: =A1000", "1 +rows 5 1", "1 -rows 5 1 / 1 A2: =A1000 / 1 B999: =a1 / 1 A1000: x"}, {"GR1: x | GQ1: y | A2: =GR1 | A3: =GQ1", "1 +cols 1 1", "1 -cols 1 1 / 1 GR1: x / 1 A2: =GR1"},
		// Of rows and columns deleted: cells that are gone, and formulas that lost what they meant.
		{"A1: =A3+1 | A3: 7", "1 -rows 3 1", "1 +rows 3 1 / 1 A1: =A3+1 / 1 A3: 7"}, {"A1: =A3+1 | A3: 7 | B3: =B9 | A9: =A1", "1 -rows 2 3", "1 +rows 2 3 / 1 A1: =A3+1 / 1 A3: 7 / 1 B3: =B9"}, {"A1: 1 | B1: 2 | C1: =B1 | A2: =A1", "3 -cols 2 1", "3 +cols 2 1 / 3 B1: 2 / 3 C1: =B1"}, {"A1: 1 | A2: 2", "1 -rows 1 100", "1 +rows 1 100 / 1 A1: 1 / 1 A2: 2"}, {"A1: 1", "1 -rows 2 1", "1 +rows 2 1"}, {"A1000: 1 | A999: 2", "1 -rows 1000 1", "1 +rows 1000 1 / 1 A1000: 1"}, {"A1: =SUM(A2:A4) | A9: =SUM(A1:A9)", "1 -rows 4 1", "1 +rows 4 1 / 1 A1: =SUM(A2:A4)"},
		// Texts that were told in another way come back as they were.
		{"A1: =a1 + 1 | A2: =A1+1 | A3: =1+ | A4: x", "1 +rows 9 1", "1 -rows 9 1 / 1 A1: =a1 + 1"}, {"A5: =a1", "1 -rows 1 1", "1 +rows 1 1 / 1 A5: =a1"},
		// Formulas of names do not come back.
		{"A1: 1 | N: =A1", "1 -rows 1 1", "1 +rows 1 1 / 1 A1: 1"}, {"A2: =N | N: = a1", "1 -rows 1 1", "1 +rows 1 1"},
		// There is none of nothing, and where what was put in can't be deleted.
		{"A1: 1", "nothing", ""}, {"A1: 1", "1 +rows 1000 2", ""}, {"A1: 1", "1 +rows 902 100", ""}, {"A1: 1", "1 +cols 200 2", ""}, {"A1: 1", "1 +cols 102 100", ""}, {"A1: 1 | A999: 2 | A1000: 3", "1 +rows 999 2", "1 -rows 999 2 / 1 A999: 2 / 1 A1000: 3"}, {"GR1: 1", "1 +cols 200 1", "1 -cols 200 1 / 1 GR1: 1"},
	} {
		s, d, want := sheetOf(c[0]), doOf(c[1]), dosOf(c[2])
		wantInverse(t, c[0], s, d, want)
		if len(want) > 0 {
			checkBack(t, s, d)
		}
	}
}

func TestBoundsOfInverses(t *testing.T) {
	full := impl.Sheet{Cells: manyCells(300, "= a1"), Names: manyNames(40, "=A1")}
	var sets []impl.Do
	for _, c := range full.Cells {
		sets = append(sets, setDo(4, c.Row, c.Col, c.Text))
	}
	for _, turn := range []impl.Turn{rowsIn(9, 1), rowsOut(1, 100), colsIn(1, 100), colsOut(1, 20), rowsOut(900, 3)} {
		wantInverse(t, "300 cells", full, turnDo(4, turn), append([]impl.Do{turnDo(4, impl.BackTurn(turn))}, sets...))
		checkBack(t, full, turnDo(4, turn))
	}
	// Of a set it is told by what was there alone; the sheet after it need not be good.
	wantInverse(t, "300 cells", full, setDo(4, 16, 1, "x"), []impl.Do{setDo(4, 16, 1, "")})
	wantInverse(t, "300 cells", full, setDo(4, 15, 20, "x"), sets[299:])
	long := impl.Sheet{Cells: []impl.Cell{{Row: 1, Col: 1, Text: tailed("=A9", 2000)}, {Row: 9, Col: 1, Text: "x"}}}
	// Its text stays when rows are put in, and is another one when they are deleted again.
	wantInverse(t, "a text that stays", long, doOf("1 +rows 2 1"), append(dosOf("1 -rows 2 1"), setDo(1, 1, 1, long.Cells[0].Text)))
	checkBack(t, long, doOf("1 +rows 2 1"))
}

func TestInversesWhereSomethingIsNotGood(t *testing.T) {
	s := sheetOf("A1: 1 | A3: =A1 | N: =A1")
	for _, d := range noDos() {
		wantInverse(t, "no operation", s, d, nil)
		wantInverse(t, "no operation", impl.Sheet{}, d, nil)
	}
	for i, s := range append(noSheets(), sheetOf("A1: 1 | SUM: =1"), sheetOf("A1: 1 | n: =1"), sheetOf("A1: 1 | N: 1")) {
		for _, d := range dosOf("nothing / 1 A1: x / 1 A1:  / 1 +rows 1 1 / 1 -rows 1 1 / 1 -cols 1 100") {
			wantInverse(t, i, s, d, nil)
		}
	}
	for i, s := range goodSheets() {
		wantInverse(t, i, s, impl.Do{}, nil)
		for _, d := range goodDos() {
			if _, good := walkedWay(s, []impl.Do{d}); good && d.Kind != 0 && (d.Kind == impl.DoSet || impl.GoodTurn(impl.BackTurn(d.Turn))) {
				checkBack(t, s, d)
			}
		}
	}
}

// TestListsOfOperationsAreNewMemory writes into answers and arguments, and asks again.
func TestListsOfOperationsAreNewMemory(t *testing.T) {
	texts := []string{"", "nothing", "1 A1: x", "1 A1: x / 1 +rows 2 1 / nothing", "2 B9: y / 2 -rows 1 1"}
	start := func() impl.Sheet { return sheetOf("A1: 1 | B2: =A1 | C3: = x | M: =1 | N: =A1") }
	for n := range len(texts) * len(texts) {
		one, other := func() []impl.Do { return dosOf(texts[n%5]) }, func() []impl.Do { return dosOf(texts[n/5]) }
		s, a, b := start(), one(), other()
		p, q := impl.TransformAll(a, b)
		x, y := impl.Converged(s, a, b)
		wantP, wantQ, wantX, wantY := slices.Clone(p), slices.Clone(q), cloned(x), cloned(y)
		clear(s.Cells)
		clear(s.Names)
		clear(a)
		clear(b)
		if !slices.Equal(p, wantP) || !slices.Equal(q, wantQ) || !sameSheets(x, wantX) || !sameSheets(y, wantY) {
			t.Errorf("%d: %v, %v, %v, %v when what was handed in is written into", n, p, q, x, y)
		}
		// No list of an answer has room in which another one stands.
		_, _, _ = append(p, doOf("9 A1: ?")), append(x.Cells, impl.Cell{Text: "?"}), append(x.Names, impl.Named{Text: "?"})
		clear(p)
		clear(x.Cells)
		clear(x.Names)
		if !slices.Equal(q, wantQ) || !sameSheets(y, wantY) {
			t.Errorf("%d: %v, %v when another list of the answer is written into", n, q, y)
		}
		clear(q)
		clear(y.Cells)
		clear(y.Names)
		wantLeft(t, n, one(), other(), wantP, wantQ)
		wantConverged(t, n, start(), one(), other(), wantX, wantY)
	}
	for _, d := range dosOf("1 A1: x / 1 A9: x / 1 +rows 2 1 / 1 -rows 1 9 / 1 +cols 1 1") {
		s := start()
		back := impl.Inverse(s, d)
		want := slices.Clone(back)
		clear(s.Cells)
		if !slices.Equal(back, want) {
			t.Errorf("%s: %v when what was handed in is written into", toldDo(d), back)
		}
		clear(back)
		wantInverse(t, "again", start(), d, want)
	}
	// Nothing is written behind what is handed in, either.
	room := append(dosOf("1 +rows 1 1 / 1 A2: x"), make([]impl.Do, 30)...)
	wantLeft(t, "room", room[:1], room[1:2], dosOf("1 +rows 1 1"), dosOf("1 A3: x"))
	after := sheetOf("A2: 1 | A3: x | B3: =A2 | C4: =x | M: =1 | N: =A2")
	wantConverged(t, "room", start(), room[:1], room[1:2], after, after)
	if want := append(dosOf("1 +rows 1 1 / 1 A2: x"), make([]impl.Do, 30)...); !slices.Equal(room, want) {
		t.Errorf("%v", room)
	}
}
