package tests

import (
	"strings"
	"testing"

	"loop.example/g00025/impl"
)

func wantTransformed(t *testing.T, d, by, want impl.Do) {
	t.Helper()
	got := impl.Transform(d, by)
	if got != want {
		t.Errorf("%.200s by %.200s\n is   %.200s\n want %.200s", toldDo(d), toldDo(by), toldDo(got), toldDo(want))
	}
	if !impl.GoodDo(got) {
		t.Errorf("%.200s by %.200s: %.200s is not good", toldDo(d), toldDo(by), toldDo(got))
	}
}

// checkTransformed has operations, what is done first, and what is left of them.
func checkTransformed(t *testing.T, transformed [][3]string) {
	t.Helper()
	for _, c := range transformed {
		if !impl.GoodDo(doOf(c[0])) || !impl.GoodDo(doOf(c[1])) {
			t.Errorf("%v: not good", c)
		}
		wantTransformed(t, doOf(c[0]), doOf(c[1]), doOf(c[2]))
	}
}

// checkBothWays has turns of rows, of which the same holds with columns in place of rows.
func checkBothWays(t *testing.T, transformed [][3]string) {
	t.Helper()
	checkTransformed(t, transformed)
	for _, c := range transformed {
		for i, text := range c {
			c[i] = strings.Replace(text, "rows", "cols", 1)
		}
		checkTransformed(t, [][3]string{c})
	}
}

func TestTransformNothing(t *testing.T) {
	for _, d := range goodDos() {
		wantTransformed(t, impl.Do{}, d, impl.Do{})
		wantTransformed(t, d, impl.Do{}, d)
	}
}

func TestTransformSetsBySets(t *testing.T) {
	checkTransformed(t, [][3]string{
		// Of the same place: a lesser Who, the same and a greater one.
		{"2 A3: y", "1 A3: x", "nothing"}, {"1 A3: y", "1 A3: x", "nothing"}, {"1 A3: x", "2 A3: y", "1 A3: x"}, {"99 A3: y", "0 A3: x", "nothing"}, {"0 A3: y", "0 A3: x", "nothing"}, {"99 A3: y", "99 A3: x", "nothing"}, {"0 A3: y", "99 A3: x", "0 A3: y"}, {"99 A3: y", "98 A3: x", "nothing"}, {"98 A3: y", "99 A3: x", "98 A3: y"},
		// Whatever the texts are.
		{"2 A3: x", "1 A3: x", "nothing"}, {"1 A3: x", "2 A3: x", "1 A3: x"}, {"2 A3: ", "1 A3: x", "nothing"}, {"2 A3: x", "1 A3: ", "nothing"}, {"1 A3: ", "2 A3: x", "1 A3: "}, {"1 A3: x", "2 A3: ", "1 A3: x"}, {"1 A3: = a1", "2 A3: ", "1 A3: = a1"}, {"2 A3: ", "1 A3: ", "nothing"},
		// Of other places.
		{"2 A3: y", "1 B3: x", "2 A3: y"}, {"2 A3: y", "1 A4: x", "2 A3: y"}, {"2 C1: y", "1 A3: x", "2 C1: y"}, {"2 A3: = b3", "1 B3: x", "2 A3: = b3"}, {"1 GR1000: y", "1 GR999: x", "1 GR1000: y"},
	})
}

func TestTransformSetsByTurns(t *testing.T) {
	checkTransformed(t, [][3]string{
		// Its place is moved on, left, and pushed beyond.
		{"1 A3: x", "2 +rows 2 1", "1 A4: x"}, {"1 A3: x", "2 +rows 3 1", "1 A4: x"}, {"1 A3: x", "2 +rows 4 1", "1 A3: x"}, {"1 A3: x", "2 +rows 1 100", "1 A103: x"}, {"1 A999: x", "2 +rows 5 1", "1 A1000: x"}, {"1 A1000: x", "2 +rows 5 1", "nothing"}, {"1 A901: x", "2 +rows 5 100", "nothing"}, {"1 A900: x", "2 +rows 5 100", "1 A1000: x"}, {"1 A1000: x", "2 +rows 1000 1", "nothing"}, {"1 A999: x", "2 +rows 1000 1", "1 A999: x"},
		{"1 C1: x", "2 +cols 3 2", "1 E1: x"}, {"1 C1: x", "2 +cols 4 2", "1 C1: x"}, {"1 GR1: x", "2 +cols 200 1", "nothing"}, {"1 GQ1: x", "2 +cols 1 1", "1 GR1: x"}, {"1 GR7: x", "2 +rows 7 1", "1 GR8: x"}, {"1 A1000: x", "2 +cols 1 1", "1 B1000: x"},
		// Its place is taken away: the first, one between, the last; moved back and left.
		{"1 A3: x", "2 -rows 3 1", "nothing"}, {"1 A3: x", "2 -rows 3 5", "nothing"}, {"1 A3: x", "2 -rows 2 5", "nothing"}, {"1 A3: x", "2 -rows 1 3", "nothing"}, {"1 A3: x", "2 -rows 1 2", "1 A1: x"}, {"1 A3: x", "2 -rows 2 1", "1 A2: x"}, {"1 A3: x", "2 -rows 4 9", "1 A3: x"}, {"1 A1000: x", "2 -rows 901 100", "nothing"}, {"1 A1000: x", "2 -rows 900 100", "1 A900: x"},
		{"1 C1: x", "2 -cols 3 1", "nothing"}, {"1 C1: x", "2 -cols 2 1", "1 B1: x"}, {"1 C1: x", "2 -cols 4 1", "1 C1: x"},
		// Whoever does it.
		{"2 A3: x", "1 +rows 3 1", "2 A4: x"}, {"2 A3: x", "2 -rows 3 1", "nothing"}, {"0 A3: x", "99 -rows 1 1", "0 A2: x"}, {"99 A3: x", "0 -rows 1 1", "99 A2: x"},
		// An empty text goes along, too.
		{"1 A3: ", "2 +rows 3 1", "1 A4: "}, {"1 A3: ", "2 -rows 3 1", "nothing"}, {"1 A3: ", "2 -rows 1 1", "1 A2: "}, {"1 A3: ", "2 +rows 9 1", "1 A3: "},
	})
}

func TestTransformFormulasOfSets(t *testing.T) {
	checkTransformed(t, [][3]string{
		{"1 A3: =A3", "2 +rows 2 1", "1 A4: =A4"}, {"1 A3: =A1+$A$5", "2 +rows 2 1", "1 A4: =A1+$A$6"}, {"1 A3: =A2", "2 -rows 2 1", "1 A2: =#REF!"}, {"1 A3: =A9+A1", "2 -rows 4 2", "1 A3: =A7+A1"}, {"1 A1: =SUM(A2:B9)", "2 +rows 3 2", "1 A1: =SUM(A2:B11)"}, {"1 A1: =SUM(A2:B9)", "2 -cols 2 1", "1 A1: =SUM(A2:A9)"}, {"1 A1: =B1+C1", "2 +cols 3 1", "1 A1: =B1+D1"}, {"1 A1: =A1000", "2 +rows 9 1", "1 A1: =#REF!"},
		// Told anew, where nothing moves, too.
		{"1 A1: = a1  +1", "2 +rows 9 1", "1 A1: =A1+1"}, {"1 A1: =sum( 1.50 )", "2 -cols 9 1", "1 A1: =SUM(1.5)"}, {"1 A1: =((A1))", "2 +cols 9 1", "1 A1: =A1"},
		// What is no formula stays.
		{"1 A1: A3", "2 +rows 1 1", "1 A2: A3"}, {"1 A1: '=A3", "2 +rows 1 1", "1 A2: '=A3"}, {"1 A1: =A3+", "2 +rows 1 1", "1 A2: =A3+"}, {"1 A1:  =A3", "2 +rows 1 1", "1 A2:  =A3"}, {"1 A1: =", "2 +rows 1 1", "1 A2: ="},
		// Where its place is gone nothing is left of it.
		{"1 A3: =A9", "2 -rows 2 2", "nothing"}, {"1 A3: =A3", "2 -rows 3 1", "nothing"},
	})
}

// TestTransformTurnsByOthers: by sets, and by turns of the other kind, they stay.
func TestTransformTurnsByOthers(t *testing.T) {
	for _, d := range goodDos() {
		for _, by := range goodDos() {
			if d.Kind == impl.DoTurn && (by.Kind == impl.DoSet || by.Kind == impl.DoTurn && by.Turn.Kind != d.Turn.Kind) {
				wantTransformed(t, d, by, d)
			}
		}
	}
	checkTransformed(t, [][3]string{
		{"2 +rows 3 2", "1 A3: x", "2 +rows 3 2"}, {"2 -rows 3 2", "1 A3: x", "2 -rows 3 2"}, {"2 -rows 3 2", "1 A4: ", "2 -rows 3 2"}, {"2 -cols 1 1", "1 A3: x", "2 -cols 1 1"},
		{"2 +rows 3 2", "1 +cols 3 2", "2 +rows 3 2"}, {"2 +rows 3 2", "1 +cols 1 2", "2 +rows 3 2"}, {"2 +rows 4 2", "1 -cols 3 2", "2 +rows 4 2"}, {"2 -rows 3 2", "1 -cols 3 2", "2 -rows 3 2"}, {"2 -rows 3 2", "1 +cols 4 2", "2 -rows 3 2"}, {"2 -cols 3 2", "1 -rows 1 100", "2 -cols 3 2"}, {"2 +cols 3 2", "1 -rows 1 100", "2 +cols 3 2"}, {"2 +cols 200 2", "1 +rows 1 100", "2 +cols 200 2"}, {"2 -rows 1000 1", "1 +cols 1 100", "2 -rows 1000 1"},
	})
}

func TestTransformRowsPutInByRowsPutIn(t *testing.T) {
	checkBothWays(t, [][3]string{
		// Ahead of it, whoever does it.
		{"1 +rows 5 2", "2 +rows 4 3", "1 +rows 8 2"}, {"2 +rows 5 2", "1 +rows 4 3", "2 +rows 8 2"}, {"1 +rows 5 2", "1 +rows 1 3", "1 +rows 8 2"}, {"1 +rows 2 1", "2 +rows 1 100", "1 +rows 102 1"},
		// At it by a lesser Who, the same and a greater one.
		{"2 +rows 3 1", "1 +rows 3 2", "2 +rows 5 1"}, {"1 +rows 3 1", "1 +rows 3 2", "1 +rows 5 1"}, {"1 +rows 3 2", "2 +rows 3 1", "1 +rows 3 2"}, {"99 +rows 1 1", "0 +rows 1 1", "99 +rows 2 1"}, {"0 +rows 1 1", "99 +rows 1 1", "0 +rows 1 1"}, {"0 +rows 1 1", "0 +rows 1 1", "0 +rows 2 1"}, {"98 +rows 7 100", "99 +rows 7 100", "98 +rows 7 100"}, {"99 +rows 7 100", "98 +rows 7 100", "99 +rows 107 100"},
		// Behind it.
		{"1 +rows 3 2", "2 +rows 4 9", "1 +rows 3 2"}, {"2 +rows 3 2", "1 +rows 4 9", "2 +rows 3 2"}, {"2 +rows 3 50", "1 +rows 9 9", "2 +rows 3 50"}, {"1 +rows 3 2", "1 +rows 200 9", "1 +rows 3 2"},
	})
}

func TestTransformRowsPutInByRowsDeleted(t *testing.T) {
	checkBothWays(t, [][3]string{
		// Wholly ahead of it, and right behind what is deleted.
		{"1 +rows 9 1", "2 -rows 3 2", "1 +rows 7 1"}, {"1 +rows 5 1", "2 -rows 3 2", "1 +rows 3 1"}, {"2 +rows 6 1", "1 -rows 3 2", "2 +rows 4 1"}, {"1 +rows 101 7", "2 -rows 1 100", "1 +rows 1 7"}, {"1 +rows 2 7", "2 -rows 1 1", "1 +rows 1 7"},
		// At its very place.
		{"1 +rows 3 1", "2 -rows 3 2", "1 +rows 3 1"}, {"2 +rows 3 1", "1 -rows 3 2", "2 +rows 3 1"}, {"1 +rows 3 1", "1 -rows 3 1", "1 +rows 3 1"}, {"1 +rows 1 5", "2 -rows 1 100", "1 +rows 1 5"},
		// Within what is deleted, behind its first row: right behind that, between, and ahead of the last one.
		{"1 +rows 4 1", "2 -rows 3 2", "nothing"}, {"2 +rows 4 1", "1 -rows 3 2", "nothing"}, {"1 +rows 4 1", "1 -rows 3 9", "nothing"}, {"1 +rows 7 100", "2 -rows 3 9", "nothing"}, {"1 +rows 11 1", "2 -rows 3 9", "nothing"}, {"1 +rows 12 1", "2 -rows 3 9", "1 +rows 3 1"}, {"1 +rows 100 1", "2 -rows 1 100", "nothing"}, {"1 +rows 2 1", "2 -rows 1 100", "nothing"},
		// Behind it.
		{"1 +rows 3 1", "2 -rows 4 2", "1 +rows 3 1"}, {"1 +rows 3 9", "2 -rows 9 2", "1 +rows 3 9"}, {"1 +rows 1 9", "2 -rows 2 100", "1 +rows 1 9"},
	})
}

func TestTransformRowsDeletedByRowsPutIn(t *testing.T) {
	checkBothWays(t, [][3]string{
		// Ahead of them, and at the first one, whoever does it.
		{"1 -rows 3 2", "2 +rows 2 4", "1 -rows 7 2"}, {"1 -rows 3 2", "2 +rows 1 4", "1 -rows 7 2"}, {"1 -rows 3 2", "2 +rows 3 1", "1 -rows 4 2"}, {"2 -rows 3 2", "1 +rows 3 1", "2 -rows 4 2"}, {"1 -rows 3 2", "1 +rows 3 1", "1 -rows 4 2"}, {"1 -rows 1 1", "2 +rows 1 100", "1 -rows 101 1"},
		// Between them: behind the first, ahead of the last.
		{"1 -rows 3 2", "2 +rows 4 1", "1 -rows 3 3"}, {"2 -rows 3 2", "1 +rows 4 1", "2 -rows 3 3"}, {"1 -rows 3 9", "2 +rows 4 5", "1 -rows 3 14"}, {"1 -rows 3 9", "2 +rows 7 5", "1 -rows 3 14"}, {"1 -rows 3 9", "2 +rows 11 5", "1 -rows 3 14"},
		// Right behind them, and farther.
		{"1 -rows 3 9", "2 +rows 12 5", "1 -rows 3 9"}, {"1 -rows 3 1", "2 +rows 4 5", "1 -rows 3 1"}, {"1 -rows 3 1", "2 +rows 99 5", "1 -rows 3 1"}, {"2 -rows 3 100", "1 +rows 103 100", "2 -rows 3 100"},
		// So that they would be more than may be at once.
		{"1 -rows 3 99", "2 +rows 50 1", "1 -rows 3 100"}, {"1 -rows 3 99", "2 +rows 50 2", "nothing"}, {"1 -rows 3 100", "2 +rows 4 1", "nothing"}, {"1 -rows 3 100", "2 +rows 102 1", "nothing"}, {"1 -rows 3 100", "2 +rows 3 1", "1 -rows 4 100"}, {"1 -rows 3 2", "2 +rows 4 98", "1 -rows 3 100"}, {"1 -rows 3 2", "2 +rows 4 99", "nothing"}, {"1 -rows 3 2", "2 +rows 4 100", "nothing"},
	})
}

func TestTransformRowsDeletedByRowsDeleted(t *testing.T) {
	checkBothWays(t, [][3]string{
		// Ahead of them, right ahead, right behind, and farther.
		{"1 -rows 9 3", "2 -rows 3 2", "1 -rows 7 3"}, {"1 -rows 5 3", "2 -rows 3 2", "1 -rows 3 3"}, {"2 -rows 101 9", "1 -rows 1 100", "2 -rows 1 9"}, {"1 -rows 3 2", "2 -rows 5 4", "1 -rows 3 2"}, {"1 -rows 3 2", "2 -rows 9 4", "1 -rows 3 2"},
		// Wholly within: between, the first ones, the last ones.
		{"1 -rows 3 3", "2 -rows 4 1", "1 -rows 3 2"}, {"1 -rows 3 3", "2 -rows 3 1", "1 -rows 3 2"}, {"1 -rows 3 3", "2 -rows 5 1", "1 -rows 3 2"}, {"1 -rows 3 9", "2 -rows 3 8", "1 -rows 3 1"}, {"1 -rows 3 9", "2 -rows 4 8", "1 -rows 3 1"}, {"1 -rows 3 9", "2 -rows 4 7", "1 -rows 3 2"}, {"1 -rows 1 100", "2 -rows 2 98", "1 -rows 1 2"},
		// Overlapping at either end.
		{"1 -rows 3 3", "2 -rows 2 2", "1 -rows 2 2"}, {"1 -rows 3 3", "2 -rows 1 4", "1 -rows 1 1"}, {"1 -rows 3 3", "2 -rows 5 4", "1 -rows 3 2"}, {"1 -rows 3 3", "2 -rows 4 100", "1 -rows 3 1"}, {"2 -rows 50 100", "1 -rows 1 100", "2 -rows 1 49"},
		// The same ones, and more than those, whoever does it.
		{"1 -rows 3 3", "2 -rows 3 3", "nothing"}, {"2 -rows 3 3", "1 -rows 3 3", "nothing"}, {"1 -rows 3 3", "1 -rows 3 3", "nothing"}, {"1 -rows 3 2", "2 -rows 2 5", "nothing"}, {"1 -rows 3 2", "2 -rows 3 3", "nothing"}, {"1 -rows 3 2", "2 -rows 2 3", "nothing"}, {"1 -rows 3 1", "2 -rows 1 100", "nothing"}, {"1 -rows 1 100", "2 -rows 1 100", "nothing"},
	})
}

// TestTransformAtTheLast: where what comes out would not be good it is nothing.
func TestTransformAtTheLast(t *testing.T) {
	checkTransformed(t, [][3]string{
		{"1 +rows 999 2", "2 +rows 1 1", "1 +rows 1000 2"}, {"1 +rows 1000 1", "2 +rows 1 1", "nothing"}, {"1 +rows 1000 1", "2 +rows 1000 1", "1 +rows 1000 1"}, {"2 +rows 1000 1", "1 +rows 1000 1", "nothing"}, {"1 +rows 901 1", "2 +rows 900 100", "nothing"}, {"1 +rows 900 1", "2 +rows 900 99", "1 +rows 900 1"}, {"2 +rows 900 1", "1 +rows 900 100", "2 +rows 1000 1"}, {"1 +rows 1000 9", "2 -rows 999 2", "nothing"}, {"1 +rows 1000 9", "2 -rows 999 1", "1 +rows 999 9"}, {"1 +rows 1000 9", "2 -rows 1000 1", "1 +rows 1000 9"},
		{"1 +cols 199 2", "2 +cols 1 1", "1 +cols 200 2"}, {"1 +cols 200 1", "2 +cols 1 1", "nothing"}, {"2 +cols 200 1", "1 +cols 200 1", "nothing"},
		// What is deleted would go beyond the last one.
		{"1 -rows 998 2", "2 +rows 1 1", "1 -rows 999 2"}, {"1 -rows 999 2", "2 +rows 1 1", "nothing"}, {"1 -rows 999 2", "2 +rows 999 1", "nothing"}, {"1 -rows 999 2", "2 +rows 1000 1", "nothing"}, {"1 -rows 998 2", "2 +rows 999 1", "1 -rows 998 3"}, {"1 -rows 998 2", "2 +rows 999 2", "nothing"}, {"1 -rows 1000 1", "2 +rows 1000 1", "nothing"}, {"1 -rows 1000 1", "2 +rows 1 100", "nothing"}, {"1 -rows 901 100", "2 +rows 1 1", "nothing"}, {"1 -rows 900 100", "2 +rows 1 1", "1 -rows 901 100"}, {"1 -rows 998 2", "2 +rows 1000 1", "1 -rows 998 2"},
		{"1 -cols 198 2", "2 +cols 1 1", "1 -cols 199 2"}, {"1 -cols 199 2", "2 +cols 1 1", "nothing"}, {"1 -cols 101 100", "2 +cols 101 1", "nothing"}, {"1 -cols 199 1", "2 +cols 199 1", "1 -cols 200 1"}, {"1 -cols 200 1", "2 +cols 199 1", "nothing"},
		// Rows go on where there are no columns any more.
		{"1 +rows 200 1", "2 +rows 1 1", "1 +rows 201 1"}, {"1 -rows 199 2", "2 +rows 1 1", "1 -rows 200 2"},
		// What is deleted there stays good.
		{"1 -rows 901 100", "2 -rows 951 50", "1 -rows 901 50"}, {"1 -rows 901 100", "2 -rows 901 99", "1 -rows 901 1"}, {"1 -rows 999 2", "2 -rows 1000 1", "1 -rows 999 1"}, {"1 -rows 1000 1", "2 -rows 999 1", "1 -rows 999 1"},
	})
}

func TestTransformWhatIsNotGood(t *testing.T) {
	good := goodDos()
	for i, bad := range noDos() {
		for _, d := range dosOf("nothing / 1 A3: x / 1 B9:  / 1 +rows 2 1 / 1 -rows 2 3 / 2 +cols 1 1 / 0 -cols 200 1") {
			wantTransformed(t, bad, d, impl.Do{})
			wantTransformed(t, d, bad, impl.Do{})
		}
		d := good[i%len(good)]
		wantTransformed(t, bad, d, impl.Do{})
		wantTransformed(t, d, bad, impl.Do{})
		wantTransformed(t, bad, bad, impl.Do{})
	}
	wantTransformed(t, setDo(1, 1, 1, "x"), impl.Do{Who: -1}, impl.Do{})
}
