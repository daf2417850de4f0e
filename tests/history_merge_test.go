package tests

import (
	"fmt"
	"slices"
	"strings"
	"testing"

	"loop.example/g00025/impl"
)

// toldChanges tells changes as changesOf takes them.
func toldChanges(changes []impl.Change) string {
	var out []string
	for _, c := range changes {
		out = append(out, impl.RefText(cell(c.Row, c.Col))+": "+c.Text)
	}
	return strings.Join(out, " | ")
}

func wantDiff(t *testing.T, what any, a, b impl.Sheet, want []impl.Change) {
	t.Helper()
	wasA, wasB := cloned(a), cloned(b)
	got := impl.DiffSheets(a, b)
	if !slices.Equal(got, want) {
		t.Errorf("%.200v:\n differ in %.300s\n want      %.300s", what, toldChanges(got), toldChanges(want))
	}
	if !sameSheets(a, wasA) || !sameSheets(b, wasB) {
		t.Errorf("%.200v was written into", what)
	}
	// What differs makes the one the other, all but for the names.
	if impl.GoodSheet(a) && impl.GoodSheet(b) {
		if after := impl.WithChanges(a, got); !slices.Equal(after.Cells, b.Cells) || !slices.Equal(after.Names, a.Names) {
			t.Errorf("%.200v: with what differs it is %.300s", what, toldSheet(after))
		}
	}
}

func TestDiffSheets(t *testing.T) {
	for _, c := range [][3]string{
		{"", "", ""}, {"A1: 1", "A1: 1", ""}, {"A1: 1 | B1: =A1 | N: =A1", "A1: 1 | B1: =A1 | N: =A1", ""},
		// Cells that come, go and change.
		{"", "A1: 1", "A1: 1"}, {"A1: 1", "", "A1: "}, {"A1: 1", "A1: 2", "A1: 2"}, {"A1: 1", "B1: 1", "A1:  | B1: 1"}, {"B1: 1", "A1: 1", "A1: 1 | B1: "}, {"A1: 1 | B1: 2 | C1: 3", "B1: 5 | C1: 3 | D1: 4", "A1:  | B1: 5 | D1: 4"}, {"A1: 1 | B1: 2 | A2: 3", "A1: 1 | A2: 3", "B1: "},
		// Rising by row, then column.
		{"", "A1: 1 | B1: 2 | A2: 3 | B2: 4 | A10: 5 | GR1000: 6", "A1: 1 | B1: 2 | A2: 3 | B2: 4 | A10: 5 | GR1000: 6"}, {"A1: 1 | B1: 2 | A2: 3 | B2: 4 | A10: 5 | GR1000: 6", "", "A1:  | B1:  | A2:  | B2:  | A10:  | GR1000: "}, {"Z1: 1 | A3: 1 | C3: 1", "Z1: 2 | B2: 1 | B3: 1 | C3: 2", "Z1: 2 | B2: 1 | A3:  | B3: 1 | C3: 2"}, {"GR1: 1 | A2: 2", "GR1: 3 | A2: 4 | AA1: 5", "AA1: 5 | GR1: 3 | A2: 4"},
		// By their texts, not by what they show.
		{"A1: 1 | B1: =A1", "A1: 1.0 | B1: = A1", "A1: 1.0 | B1: = A1"}, {"A1: =1", "A1: =2-1", "A1: =2-1"}, {"A1: x", "A1: X", "A1: X"}, {"A1: x", "A1: 'x", "A1: 'x"}, {"A1: 1 | B1: =A1", "A1: 2 | B1: =A1", "A1: 2"},
		// Names count for nothing.
		{"N: =1", "", ""}, {"", "N: =1", ""}, {"N: =1", "N: =2", ""}, {"A1: 1 | M: =1", "A1: 1 | N: =1", ""}, {"A1: 1 | N: =1", "A1: 2 | N: =2", "A1: 2"},
	} {
		wantDiff(t, c, sheetOf(c[0]), sheetOf(c[1]), changesOf(c[2]))
	}
}

func TestBoundsOfDiffs(t *testing.T) {
	full := impl.Sheet{Cells: manyCells(300, "1"), Names: manyNames(40, "=A1")}
	below := cloned(full)
	var all, moved []impl.Change
	for i, c := range full.Cells {
		below.Cells[i].Row += 500
		all = append(all, impl.Change(c))
		moved = append(moved, impl.Change{Row: c.Row, Col: c.Col})
	}
	for _, c := range below.Cells {
		moved = append(moved, impl.Change(c))
	}
	wantDiff(t, "all come", impl.Sheet{}, full, all)
	wantDiff(t, "all go", full, impl.Sheet{}, moved[:300])
	wantDiff(t, "all go and others come", full, below, moved)
	wantDiff(t, "none", full, full, nil)
	good := goodSheets()
	for i, s := range good {
		wantDiff(t, s, s, s, nil)
		wantDiff(t, s, s, good[(i+1)%len(good)], walkedDiff(s, good[(i+1)%len(good)]))
	}
	one := sheetOf("A1: 7 | B9: 8 | N: =1")
	for _, s := range append(noSheets(), sheetOf("A1: 1 | SUM: =1"), sheetOf("A1: 1 | n: =1"), sheetOf("A1: 1 | N: 1")) {
		wantDiff(t, s, s, one, nil)
		wantDiff(t, s, one, s, nil)
		wantDiff(t, s, s, s, nil)
		wantDiff(t, s, s, impl.Sheet{}, nil)
		wantDiff(t, s, impl.Sheet{}, s, nil)
	}
}

func wantMerged(t *testing.T, what any, base, ours, theirs impl.Sheet, want impl.Merged) {
	t.Helper()
	wasBase, wasOurs, wasTheirs := cloned(base), cloned(ours), cloned(theirs)
	got := impl.MergeSheets(base, ours, theirs)
	if !sameSheets(got.Sheet, want.Sheet) || !slices.Equal(got.Clash, want.Clash) {
		t.Errorf("%.200v:\n %.300s, clash %.300s\n want %.300s, clash %.300s", what, toldSheet(got.Sheet), toldChanges(got.Clash), toldSheet(want.Sheet), toldChanges(want.Clash))
	}
	if !sameSheets(base, wasBase) || !sameSheets(ours, wasOurs) || !sameSheets(theirs, wasTheirs) {
		t.Errorf("%.200v was written into", what)
	}
}

// checkMerges has base, ours, theirs, the outcome, and where they clash.
func checkMerges(t *testing.T, merges [][5]string) {
	t.Helper()
	for _, c := range merges {
		want := impl.Merged{Sheet: sheetOf(c[3]), Clash: changesOf(c[4])}
		wantMerged(t, c, sheetOf(c[0]), sheetOf(c[1]), sheetOf(c[2]), want)
	}
}

func TestMergedCells(t *testing.T) {
	checkMerges(t, [][5]string{
		{"", "", "", "", ""}, {"A1: 1 | B2: 2", "A1: 1 | B2: 2", "A1: 1 | B2: 2", "A1: 1 | B2: 2", ""},
		// One side alone.
		{"A1: 1", "A1: 2", "A1: 1", "A1: 2", ""}, {"A1: 1", "A1: 1", "A1: 2", "A1: 2", ""}, {"", "A1: 1", "", "A1: 1", ""}, {"", "", "A1: 1", "A1: 1", ""}, {"A1: 1", "", "A1: 1", "", ""}, {"A1: 1", "A1: 1", "", "", ""},
		// Both, at unlike places; the cells rise.
		{"A1: 1 | A2: 2", "A1: 10 | A2: 2", "A1: 1 | A2: 20", "A1: 10 | A2: 20", ""}, {"A1: 1 | A2: 2 | A3: 3", "A2: 2 | A3: 3 | C1: 4", "A1: 1 | A2: 2 | B1: 5", "B1: 5 | C1: 4 | A2: 2", ""}, {"", "GR1000: 1 | A1: 2", "A2: 3 | GR1: 4 | A1000: 5", "A1: 2 | GR1: 4 | A2: 3 | A1000: 5 | GR1000: 1", ""}, {"C3: 0", "C3: 0 | B2: 1 | D4: 2", "C3: 0 | A1: 3 | E5: 4", "A1: 3 | B2: 1 | C3: 0 | D4: 2 | E5: 4", ""},
		// Both made the same change.
		{"A1: 1", "A1: 2", "A1: 2", "A1: 2", ""}, {"", "A1: 2", "A1: 2", "A1: 2", ""}, {"A1: 1", "", "", "", ""}, {"A1: 1 | A2: 2", "A1: 3 | A3: 4", "A1: 3 | A3: 4", "A1: 3 | A3: 4", ""},
		// Texts, not what they show.
		{"A1: 1", "A1: 1.0", "A1: 1", "A1: 1.0", ""}, {"A1: 1", "A1: =1", "A1: 1.0", "A1: =1", "A1: 1.0"}, {"A1: =B1", "A1: =B1", "A1: = B1", "A1: = B1", ""}, {"A1: x", "A1: X", "A1: x", "A1: X", ""},
		// A cell that one side changes, and another one that hangs on it, changed by the other: both are taken.
		{"A1: 1 | B1: =A1", "A1: 2 | B1: =A1", "A1: 1 | B1: =A1+1", "A1: 2 | B1: =A1+1", ""},
	})
}

func TestClashes(t *testing.T) {
	checkMerges(t, [][5]string{
		{"A1: 1", "A1: 2", "A1: 3", "A1: 2", "A1: 3"}, {"", "A1: 2", "A1: 3", "A1: 2", "A1: 3"},
		// One takes away what the other changes.
		{"A1: 1", "", "A1: 3", "", "A1: 3"}, {"A1: 1", "A1: 2", "", "A1: 2", "A1: "}, {"A1: 1 | B1: 0", "B1: 0", "A1: 3 | B1: 0", "B1: 0", "A1: 3"}, {"A1: 1 | B1: 0", "A1: 2 | B1: 0", "B1: 0", "A1: 2 | B1: 0", "A1: "},
		// At several places, rising, beside what does not clash.
		{"A1: 1 | B1: 2 | A2: 3 | B2: 4", "A1: 10 | B1: 20 | A2: 30 | B2: 40", "A1: 11 | B1: 21 | A2: 31 | B2: 41", "A1: 10 | B1: 20 | A2: 30 | B2: 40", "A1: 11 | B1: 21 | A2: 31 | B2: 41"},
		{"A1: 1 | B1: 2 | A2: 3 | B2: 4", "A1: 10 | A2: 3 | B2: 40", "B1: 21 | A2: 31 | B2: 40", "A1: 10 | A2: 31 | B2: 40", "A1:  | B1: 21"},
		{"GR1: 1 | A2: 2 | A10: 3", "GR1: 4 | A2: 5 | A10: 6 | B1: 7 | GR1000: 8", "B1: 9 | GR1000: x", "B1: 7 | GR1: 4 | A2: 5 | A10: 6 | GR1000: 8", "B1: 9 | GR1:  | A2:  | A10:  | GR1000: x"},
		{"A1: 1 | A2: 2 | A3: 3 | A4: 4 | N: =1", "A1: 10 | A2: 2 | A4: 40 | A5: 5 | N: =1", "A1: 1 | A2: 20 | A3: 30 | A4: 41 | A5: 5 | N: =2", "A1: 10 | A2: 20 | A4: 40 | A5: 5 | N: =2", "A3: 30 | A4: 41"},
		// What is as it was ahead on one side is no change of it.
		{"A1: 1 | B1: 1", "A1: 1 | B1: 2", "A1: 2 | B1: 1", "A1: 2 | B1: 2", ""},
	})
}

func TestMergedNames(t *testing.T) {
	checkMerges(t, [][5]string{
		{"N: =1", "N: =1", "N: =1", "N: =1", ""}, {"N: =1", "N: =2", "N: =1", "N: =2", ""}, {"N: =1", "N: =1", "N: =2", "N: =2", ""}, {"N: =1", "", "N: =1", "", ""}, {"N: =1", "N: =1", "", "", ""}, {"", "N: =1", "", "N: =1", ""}, {"", "", "N: =1", "N: =1", ""},
		// Both the same.
		{"N: =1", "N: =2", "N: =2", "N: =2", ""}, {"N: =1", "", "", "", ""}, {"", "N: =2", "N: =2", "N: =2", ""},
		// Ours stands where they clash, and nothing is told of it.
		{"N: =1", "N: =2", "N: =3", "N: =2", ""}, {"N: =1", "", "N: =3", "", ""}, {"N: =1", "N: =2", "", "N: =2", ""}, {"", "N: =2", "N: =3", "N: =2", ""},
		// Several, rising by bytes.
		{"M: =1 | N: =1 | O: =1", "M: =2 | N: =1 | O: =2", "N: =3 | O: =3 | P: =3", "M: =2 | N: =3 | O: =2 | P: =3", ""}, {"", "A_: =1 | A.: =1 | _: =1", "AA: =2 | A0: =2 | B: =2", "A.: =1 | A0: =2 | AA: =2 | A_: =1 | B: =2 | _: =1", ""}, {"B: =1 | D: =1 | F: =1", "A: =2 | B: =1 | D: =1", "B: =1 | E: =3 | F: =1", "A: =2 | B: =1 | E: =3", ""},
		// Beside cells, which count by themselves.
		{"A1: 1 | N: =1", "A1: 2 | N: =1", "A1: 1 | N: =2", "A1: 2 | N: =2", ""}, {"A1: 1 | N: =1", "A1: 2 | N: =2", "A1: 3 | N: =3", "A1: 2 | N: =2", "A1: 3"}, {"A1: 1 | N: =1", "A1: 1", "A1: 3 | N: =3", "A1: 3", ""}, {"A1: 1 | N: =1", "N: =1", "A1: 3", "", "A1: 3"},
		// By their texts as they are.
		{"N: =1", "N: =1", "N: = 1", "N: = 1", ""}, {"N: =a1", "N: =A1", "N: =a1", "N: =A1", ""},
	})
}

// someOf has of as many cells those from one number on and ahead of another one.
func someOf(from, to int, text string) []impl.Cell { return manyCells(to, text)[from:] }

func TestBoundsOfMerges(t *testing.T) {
	none := impl.Merged{}
	half, rest, more := someOf(0, 150, "1"), someOf(150, 300, "2"), someOf(150, 301, "2")
	whole := slices.Concat(half, rest)
	wantMerged(t, "300 cells", impl.Sheet{}, impl.Sheet{Cells: half}, impl.Sheet{Cells: rest}, impl.Merged{Sheet: impl.Sheet{Cells: whole}})
	wantMerged(t, "301 cells", impl.Sheet{}, impl.Sheet{Cells: half}, impl.Sheet{Cells: more}, none)
	wantMerged(t, "301 cells", impl.Sheet{}, impl.Sheet{Cells: more}, impl.Sheet{Cells: half}, none)
	all := impl.Sheet{Cells: whole}
	wantMerged(t, "twice 300 cells", impl.Sheet{}, all, impl.Sheet{Cells: manyCells(300, "3")}, impl.Merged{Sheet: all, Clash: changesTo(manyCells(300, "3"))})
	wantMerged(t, "none of 300 cells", all, impl.Sheet{}, impl.Sheet{}, none)
	wantMerged(t, "300 cells of which each side takes one half", all, impl.Sheet{Cells: half}, impl.Sheet{Cells: rest}, none)
	// One more than may be, and beside it a clash, of which nothing is told then.
	clashing := slices.Concat(someOf(0, 1, "9"), more)
	wantMerged(t, "301 cells and a clash", impl.Sheet{}, impl.Sheet{Cells: half}, impl.Sheet{Cells: clashing}, none)
	wantMerged(t, "300 cells and a clash", impl.Sheet{}, impl.Sheet{Cells: half}, impl.Sheet{Cells: clashing[:151]}, impl.Merged{Sheet: all, Clash: changesTo(clashing[:1])})
	// From a full one on: one goes and one comes, or two.
	less, beyond := impl.Sheet{Cells: whole[1:]}, impl.Sheet{Cells: append(slices.Clone(whole[:299]), more[150])}
	wantMerged(t, "300 cells again", all, less, beyond, impl.Merged{Sheet: impl.Sheet{Cells: beyond.Cells[1:]}})
	wantMerged(t, "one comes", impl.Sheet{Cells: whole[:299]}, all, beyond, none)

	names := manyNames(41, "=1")
	first, second, third := impl.Sheet{Names: names[:20]}, impl.Sheet{Names: names[20:40]}, impl.Sheet{Names: names[20:]}
	wantMerged(t, "40 names", impl.Sheet{}, first, second, impl.Merged{Sheet: impl.Sheet{Names: names[:40]}})
	wantMerged(t, "41 names", impl.Sheet{}, first, third, none)
	wantMerged(t, "41 names", impl.Sheet{}, third, first, none)
	first.Cells, third.Cells = half, clashing[:1]
	wantMerged(t, "41 names, cells and a clash", impl.Sheet{}, first, third, none)
	// Both as full as may be.
	first, second = impl.Sheet{Cells: half, Names: names[:20]}, impl.Sheet{Cells: rest, Names: names[20:40]}
	wantMerged(t, "300 cells and 40 names", impl.Sheet{}, first, second, impl.Merged{Sheet: impl.Sheet{Cells: whole, Names: names[:40]}})
}

// changesTo has cells as changes.
func changesTo(cells []impl.Cell) []impl.Change {
	var out []impl.Change
	for _, c := range cells {
		out = append(out, impl.Change(c))
	}
	return out
}

func TestMergesOfSheetsThatAreNotGood(t *testing.T) {
	one, other := sheetOf("A1: 7 | B9: 8 | N: =1"), sheetOf("A1: 6 | B9: 8 | N: =1")
	for i, s := range append(noSheets(), sheetOf("A1: 1 | SUM: =1"), sheetOf("A1: 1 | n: =1"), sheetOf("A1: 1 | N: 1")) {
		what := fmt.Sprintf("%d: %.100v", i, s)
		for _, three := range [][3]impl.Sheet{{s, one, other}, {one, s, other}, {one, other, s}, {s, s, one}, {s, one, s}, {one, s, s}, {s, s, s}, {s, {}, {}}, {{}, s, {}}, {{}, {}, s}} {
			wantMerged(t, what, three[0], three[1], three[2], impl.Merged{})
		}
	}
	good := goodSheets()
	for i, s := range good {
		next := good[(i+1)%len(good)]
		wantMerged(t, s, s, s, s, impl.Merged{Sheet: s})
		wantMerged(t, s, next, s, s, impl.Merged{Sheet: s})
		wantMerged(t, s, next, next, s, impl.Merged{Sheet: s})
		wantMerged(t, s, next, s, next, impl.Merged{Sheet: s})
	}
}

// TestMergesAreNewMemory writes into answers and arguments, and asks again.
func TestMergesAreNewMemory(t *testing.T) {
	texts := []string{"", "A1: 1 | B1: 2 | C1: 3 | M: =1 | N: =1", "A1: 4 | B1: 5 | C1: 3 | M: =2 | N: =1", "A1: 6 | B1: 7 | D1: 8 | M: =3 | N: =4"}
	for n := range len(texts) * len(texts) * len(texts) {
		three := func() (impl.Sheet, impl.Sheet, impl.Sheet) {
			return sheetOf(texts[n%4]), sheetOf(texts[n/4%4]), sheetOf(texts[n/16])
		}
		base, ours, theirs := three()
		want := impl.MergeSheets(three())
		got := impl.MergeSheets(base, ours, theirs)
		diff, wantedDiff := impl.DiffSheets(ours, theirs), impl.DiffSheets(ours, theirs)
		for _, s := range []impl.Sheet{base, ours, theirs} {
			clear(s.Cells)
			clear(s.Names)
		}
		if !sameSheets(got.Sheet, want.Sheet) || !slices.Equal(got.Clash, want.Clash) || !slices.Equal(diff, wantedDiff) {
			t.Errorf("%d: %v, %v when what was handed in is written into", n, got, diff)
		}
		// No list of an answer has room in which another one stands.
		_, _, _, _ = append(got.Sheet.Cells, impl.Cell{Text: "?"}), append(got.Sheet.Names, impl.Named{Text: "?"}), append(got.Clash, impl.Change{Text: "?"}), append(diff, impl.Change{Text: "?"})
		clear(got.Sheet.Cells)
		clear(got.Clash)
		clear(diff)
		base, ours, theirs = three()
		if !slices.Equal(got.Sheet.Names, want.Sheet.Names) || !slices.Equal(impl.DiffSheets(ours, theirs), wantedDiff) {
			t.Errorf("%d: %v when another list of the answer is written into", n, got)
		}
		wantMerged(t, n, base, ours, theirs, want)
	}
}
