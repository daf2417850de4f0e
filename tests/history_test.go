package tests

import (
	"fmt"
	"math"
	"slices"
	"strconv"
	"strings"
	"testing"

	"loop.example/g00025/impl"
)

// stepsOf has steps with ` / ` between: changes as changesOf takes them, or `-3` for one that takes the third back.
func stepsOf(text string) []impl.Step {
	var out []impl.Step
	for _, part := range strings.Split(text, " / ") {
		if undo, isBack := strings.CutPrefix(part, "-"); isBack {
			n, _ := strconv.Atoi(undo)
			out = append(out, impl.Step{Undo: n})
		} else if part != "" {
			out = append(out, impl.Step{Changes: changesOf(part)})
		}
	}
	return out
}

func clonedSteps(steps []impl.Step) []impl.Step {
	out := slices.Clone(steps)
	for i := range out {
		out[i].Changes = slices.Clone(out[i].Changes)
	}
	return out
}

func sameSteps(a, b []impl.Step) bool {
	return slices.EqualFunc(a, b, func(s, u impl.Step) bool { return s.Undo == u.Undo && slices.Equal(s.Changes, u.Changes) })
}

// standMarks has `+` for a step that stands and `-` for one that does not.
func standMarks(stand []bool) string {
	out := ""
	for _, is := range stand {
		out += map[bool]string{true: "+", false: "-"}[is]
	}
	return out
}

// isZeroSheet is whether there is nothing in a sheet.
func isZeroSheet(s impl.Sheet) bool { return len(s.Cells)+len(s.Names) == 0 }

// account is what the functions that do not ask for the start say of steps.
type account struct {
	stand string
	undo  int
	redo  int
}

func wantAccount(t *testing.T, what any, steps []impl.Step, want account) {
	t.Helper()
	was := clonedSteps(steps)
	got := account{stand: standMarks(impl.Standing(steps)), undo: impl.LastUndo(steps), redo: impl.LastRedo(steps)}
	if got != want {
		t.Errorf("%.200v: %v, want %v", what, got, want)
	}
	if !sameSteps(steps, was) {
		t.Errorf("%.200v was written into", what)
	}
}

func wantAfter(t *testing.T, what any, start impl.Sheet, steps []impl.Step, want impl.Sheet) {
	t.Helper()
	was, asked := cloned(start), clonedSteps(steps)
	if !impl.GoodSteps(start, steps) {
		t.Errorf("%.200v: the steps are not good", what)
	}
	if got := impl.AfterSteps(start, steps); !sameSheets(got, want) {
		t.Errorf("%.200v:\n after them %.300s\n want       %.300s", what, toldSheet(got), toldSheet(want))
	}
	if !sameSheets(start, was) || !sameSteps(steps, asked) {
		t.Errorf("%.200v was written into", what)
	}
}

// wantNotGood asks for no sheet after steps.
func wantNotGood(t *testing.T, what any, start impl.Sheet, steps []impl.Step) {
	t.Helper()
	was, asked := cloned(start), clonedSteps(steps)
	if impl.GoodSteps(start, steps) {
		t.Errorf("%.200v: the steps are good", what)
	}
	if got := impl.AfterSteps(start, steps); !isZeroSheet(got) {
		t.Errorf("%.200v: after them %.300s", what, toldSheet(got))
	}
	if !sameSheets(start, was) || !sameSteps(steps, asked) {
		t.Errorf("%.200v was written into", what)
	}
}

// wantNoHistory asks for the zero answer everywhere.
func wantNoHistory(t *testing.T, what any, steps []impl.Step) {
	t.Helper()
	wantAccount(t, what, steps, account{})
	for _, start := range []impl.Sheet{{}, sheetOf("A1: 0 | N: =A1")} {
		wantNotGood(t, what, start, steps)
	}
}

func TestConstantOfSteps(t *testing.T) {
	if impl.MaxSteps2 != 60 {
		t.Errorf("MaxSteps2 %d", impl.MaxSteps2)
	}
}

// checkHistories has steps, the sheet after all of them from `A1: 0 | C3: 9 | N: =A1` on, and what is told of them.
func checkHistories(t *testing.T, histories []history) {
	t.Helper()
	start := sheetOf("A1: 0 | C3: 9 | N: =A1")
	for _, h := range histories {
		steps := stepsOf(h.steps)
		wantAfter(t, h.steps, start, steps, sheetOf(h.after+" | C3: 9 | N: =A1"))
		wantAccount(t, h.steps, steps, account{h.stand, h.undo, h.redo})
	}
}

type history struct {
	steps string
	after string
	stand string
	undo  int
	redo  int
}

func TestStepsOfChanges(t *testing.T) {
	checkHistories(t, []history{
		{"", "A1: 0", "", 0, 0}, {"A1: 1", "A1: 1", "+", 1, 0}, {"A1: ", "", "+", 1, 0}, {"B1: 1", "A1: 0 | B1: 1", "+", 1, 0}, {"A1: 1 | B1: 2 | A1: 3", "A1: 3 | B1: 2", "+", 1, 0},
		{"A1: 1 / A1: 2", "A1: 2", "++", 2, 0}, {"A1: 1 / B1: 2 / A2: 3", "A1: 1 | B1: 2 | A2: 3", "+++", 3, 0}, {"A1: 1 / A1: ", "", "++", 2, 0}, {"A1:  / A1: 1", "A1: 1", "++", 2, 0},
		// One that changes nothing is one nevertheless.
		{"A1: 0", "A1: 0", "+", 1, 0}, {"B9: ", "A1: 0", "+", 1, 0}, {"A1: 1 / A1: 1", "A1: 1", "++", 2, 0}, {"A1:  | A1: 0", "A1: 0", "+", 1, 0},
		// Texts as they are; the cells rise, to the last place.
		{"A1: =b1 + 1 / B1:  x", "A1: =b1 + 1 | B1:  x", "++", 2, 0}, {"GR1000: 1 / A1000: 2 / GR1: 3", "A1: 0 | GR1: 3 | A1000: 2 | GR1000: 1", "+++", 3, 0},
	})
}

func TestStepsTakenBack(t *testing.T) {
	checkHistories(t, []history{
		{"A1: 1 / -1", "A1: 0", "-+", 0, 2}, {"A1:  / -1", "A1: 0", "-+", 0, 2}, {"B1: 1 / -1", "A1: 0", "-+", 0, 2}, {"A1: 1 | B1: 2 | A2: 3 / -1", "A1: 0", "-+", 0, 2},
		// The first, the middle and the last of several at one place.
		{"A1: 1 / A1: 2 / A1: 3 / -1", "A1: 3", "-+++", 3, 4}, {"A1: 1 / A1: 2 / A1: 3 / -2", "A1: 3", "+-++", 3, 4}, {"A1: 1 / A1: 2 / A1: 3 / -3", "A1: 2", "++-+", 2, 4}, {"A1: 1 / A1:  / A1: 3 / -3", "", "++-+", 2, 4}, {"A1: 1 / A1:  / -2", "A1: 1", "+-+", 1, 3}, {"A1: 1 / A1:  / -1", "", "-++", 2, 3},
		// Several of them, in either order.
		{"A1: 1 / A1: 2 / A1: 3 / -2 / -3", "A1: 1", "+--++", 1, 5}, {"A1: 1 / A1: 2 / A1: 3 / -3 / -2", "A1: 1", "+--++", 1, 5}, {"A1: 1 / A1: 2 / A1: 3 / -1 / -3", "A1: 2", "-+-++", 2, 5}, {"A1: 1 / A1: 2 / A1: 3 / -3 / -1", "A1: 2", "-+-++", 2, 5}, {"A1: 1 / A1: 2 / -1 / -2", "A1: 0", "--++", 0, 4}, {"A1: 1 / A1: 2 / -2 / -1", "A1: 0", "--++", 0, 4},
		// Changes behind a taking back; those of other places stay.
		{"A1: 1 / -1 / A1: 2", "A1: 2", "-++", 3, 2}, {"A1: 1 / -1 / A1: 2 / -3", "A1: 0", "-+-+", 0, 4}, {"A1: 1 / B1: 2 / -1", "A1: 0 | B1: 2", "-++", 2, 3}, {"A1: 1 | B1: 2 / B1: 3 | A2: 4 / -1", "A1: 0 | B1: 3 | A2: 4", "-++", 2, 3}, {"A1: 1 | B1: 2 / B1: 3 | A2: 4 / -2", "A1: 1 | B1: 2", "+-+", 1, 3},
	})
}

func TestStepsTakenBackTwice(t *testing.T) {
	checkHistories(t, []history{
		// By two that stand: one of them taken back does not do it again, both do.
		{"A1: 1 / -1 / -1", "A1: 0", "-++", 0, 3}, {"A1: 1 / -1 / -1 / -2", "A1: 0", "--++", 0, 3}, {"A1: 1 / -1 / -1 / -3", "A1: 0", "-+-+", 0, 2}, {"A1: 1 / -1 / -1 / -2 / -3", "A1: 1", "+--++", 1, 0}, {"A1: 1 / -1 / -1 / -3 / -2", "A1: 1", "+--++", 1, 0}, {"A1: 1 / -1 / -1 / -1", "A1: 0", "-+++", 0, 4},
		// By one that does not stand, and by one that does.
		{"A1: 1 / -1 / -2 / -1", "A1: 0", "--++", 0, 4}, {"A1: 1 / -1 / -2 / -1 / -4", "A1: 1", "+-+-+", 1, 0}, {"A1: 1 / -1 / -2 / -1 / -3", "A1: 0", "-+-++", 0, 4},
	})
}

func TestTakingBackTakenBack(t *testing.T) {
	checkHistories(t, []history{
		{"A1: 1 / -1 / -2", "A1: 1", "+-+", 1, 0}, {"A1: 1 / -1 / -2 / -3", "A1: 0", "-+-+", 0, 2}, {"A1: 1 / -1 / -2 / -3 / -4", "A1: 1", "+-+-+", 1, 0}, {"A1: 1 / -1 / -2 / -3 / -4 / -5", "A1: 0", "-+-+-+", 0, 2},
		// Twice, at each depth.
		{"A1: 1 / -1 / -2 / -2", "A1: 1", "+-++", 1, 0}, {"A1: 1 / -1 / -2 / -2 / -3", "A1: 1", "+--++", 1, 0}, {"A1: 1 / -1 / -2 / -2 / -3 / -4", "A1: 0", "-+--++", 0, 2}, {"A1: 1 / -1 / -2 / -3 / -3", "A1: 0", "-+-++", 0, 2}, {"A1: 1 / -1 / -2 / -3 / -3 / -5", "A1: 0", "-+-+-+", 0, 2},
		// What is done again is done at its own place in the order, not at the end.
		{"A1: 1 / A1: 2 / -1 / -3", "A1: 2", "++-+", 2, 0}, {"A1: 1 / -1 / A1: 2 / -2", "A1: 2", "+-++", 3, 0}, {"A1: 1 / -1 / A1: 2 / -2 / -3", "A1: 1", "+--++", 1, 5}, {"A1: 1 / -1 / A1:  / -2", "", "+-++", 3, 0},
		// The last one that takes back changes may stand ahead of others, and not be the last of all.
		{"A1: 1 / B1: 2 / -1 / -2 / -4", "A1: 0 | B1: 2", "-++-+", 2, 3}, {"A1: 1 / B1: 2 / -2 / -1 / -4", "A1: 1", "+-+-+", 1, 3}, {"A1: 1 / B1: 2 / -1 / -2 / -3", "A1: 1", "+--++", 1, 4}, {"A1: 1 / -1 / -2 / B1: 2 / -4", "A1: 1", "+-+-+", 1, 5}, {"A1: 1 / -1 / B1: 2 / -2 / -4", "A1: 0 | B1: 2", "-++-+", 3, 2},
		// The one of the given test.
		{"A1: 1 / A1: 2 / A2: x / -1 / -2 / -5", "A1: 2 | A2: x", "-+++-+", 3, 4},
	})
}

// TestLongChains takes back what took back, as often as there may be steps.
func TestLongChains(t *testing.T) {
	start := sheetOf("A1: 0")
	steps := stepsOf("A1: 1")
	for len(steps) < 60 {
		steps = append(steps, impl.Step{Undo: len(steps)})
		stands := len(steps)%2 == 1
		marks := strings.Repeat("-+", 30)[len(steps)%2:][:len(steps)]
		wantAccount(t, len(steps), steps, account{marks, boolNumber(stands), 2 * boolNumber(!stands)})
		wantAfter(t, len(steps), start, steps, sheetOf(fmt.Sprintf("A1: %d", boolNumber(stands))))
	}
	wantNoHistory(t, "61 steps", append(steps, impl.Step{Undo: 60}))
}

// numbered has steps that each set A1, and others, to the step's number.
func numbered(many int, changes int) []impl.Step {
	var out []impl.Step
	for n := 1; n <= many; n++ {
		var s impl.Step
		for col := 1; col <= changes; col++ {
			s.Changes = append(s.Changes, impl.Change{Row: 1, Col: col, Text: strconv.Itoa(n)})
		}
		out = append(out, s)
	}
	return out
}

func TestMostSteps(t *testing.T) {
	start := sheetOf("A1: 0")
	// With 20 changes in each they are more than may be made at once.
	for _, changes := range []int{1, 16, 17, 20} {
		steps := numbered(60, changes)
		wantAfter(t, changes, start, steps, impl.Sheet{Cells: manyCells(changes, "60")})
		wantAccount(t, changes, steps, account{strings.Repeat("+", 60), 60, 0})
		steps[59] = impl.Step{Undo: 59}
		wantAfter(t, changes, start, steps, impl.Sheet{Cells: manyCells(changes, "58")})
		wantAccount(t, changes, steps, account{strings.Repeat("+", 58) + "-+", 58, 60})
		steps[59] = impl.Step{Undo: 1}
		wantAfter(t, changes, start, steps, impl.Sheet{Cells: manyCells(changes, "59")})
		wantAccount(t, changes, steps, account{"-" + strings.Repeat("+", 59), 59, 60})
		for _, more := range []impl.Step{{Undo: 1}, {Undo: 60}, steps[0]} {
			wantNoHistory(t, "61 steps", append(slices.Clone(steps), more))
		}
		wantNoHistory(t, "500 steps", numbered(500, changes))
	}
	var all []impl.Step
	for n := range 30 {
		all = append(all, numbered(n+1, 1)[n])
	}
	for n := range 30 {
		all = append(all, impl.Step{Undo: 30 - n})
	}
	wantAfter(t, "all taken back", start, all, start)
	wantAccount(t, "all taken back", all, account{strings.Repeat("-", 30) + strings.Repeat("+", 30), 0, 60})
}

func TestMostChangesOfAStep(t *testing.T) {
	start := sheetOf("A1: 0")
	for _, many := range []int{1, 2, 19, 20} {
		steps := numbered(2, many)
		wantAfter(t, many, start, steps, impl.Sheet{Cells: manyCells(many, "2")})
		wantAccount(t, many, steps, account{"++", 2, 0})
	}
	for _, many := range []int{0, 21, 22, 1000, 1001} {
		steps := numbered(1, many)
		wantNoHistory(t, many, steps)
		wantNoHistory(t, many, append(stepsOf("A1: 1 / A1: 2"), steps...))
		// Also where it does not stand.
		wantNoHistory(t, many, append(steps, impl.Step{Undo: 1}))
	}
	// As many as there are, whatever they come to.
	same := impl.Step{Changes: slices.Repeat([]impl.Change{{Row: 1, Col: 1, Text: "5"}, {Row: 1, Col: 1}}, 11)}
	wantNoHistory(t, "22 changes of one place", []impl.Step{same})
	same.Changes = same.Changes[:20]
	wantAfter(t, "20 changes of one place", start, []impl.Step{same}, impl.Sheet{})
}

// badSteps has steps that may not come behind two others, in one way each.
func badSteps() []impl.Step {
	one := []impl.Change{{Row: 1, Col: 1, Text: "1"}}
	out := []impl.Step{{}, {Changes: []impl.Change{}}, {Undo: 1, Changes: one}, {Undo: 2, Changes: one}, {Undo: 2, Changes: slices.Repeat(one, 20)}, {Undo: -1, Changes: one}, {Undo: 3, Changes: one}, {Undo: 1, Changes: make([]impl.Change, 1)}, {Changes: make([]impl.Change, 1)}, {Changes: slices.Repeat(one, 21)}}
	for _, undo := range []int{-1, -2, -3, -60, 3, 4, 5, 60, 61, math.MaxInt, math.MinInt, math.MinInt + 1, 1 << 32, 1<<32 + 1, -1 << 32} {
		out = append(out, impl.Step{Undo: undo})
	}
	for _, r := range noPlaces() {
		for _, text := range []string{"", "1"} {
			bad := impl.Change{Row: r.Row, Col: r.Col, Text: text}
			out = append(out, impl.Step{Changes: []impl.Change{bad}}, impl.Step{Changes: []impl.Change{one[0], bad}}, impl.Step{Changes: []impl.Change{bad, one[0]}})
		}
	}
	return out
}

func TestStepsThatAreNotAsSaid(t *testing.T) {
	for _, bad := range badSteps() {
		steps := append(stepsOf("A1: 1 / -1"), bad)
		wantNoHistory(t, bad, steps)
		// Steps behind it, also one that takes it back, do not make it good.
		wantNoHistory(t, bad, append(slices.Clone(steps), stepsOf("A1: 2 / -3 / -2")...))
		wantNoHistory(t, bad, append(slices.Clone(steps), bad))
		wantNoHistory(t, bad, append(append(stepsOf("A1: 1 / A1: 2"), bad), numbered(57, 1)...))
	}
	// Of the first step each Undo is of none.
	for _, undo := range []int{1, 2, -1, 60, math.MaxInt, math.MinInt} {
		wantNoHistory(t, undo, []impl.Step{{Undo: undo}})
		wantNoHistory(t, undo, []impl.Step{{Undo: undo}, numbered(1, 1)[0]})
	}
	for _, text := range []string{"A1: 1 / -2", "A1: 1 / -3", "A1: 1 / -3 / -1", "-2 / A1: 1", "A1: 1 / -1 / -3", "A1: 1 / -1 / -4 / -1"} {
		wantNoHistory(t, text, stepsOf(text))
	}
}

func setTo(text string) impl.Step {
	return impl.Step{Changes: []impl.Change{{Row: 1, Col: 1, Text: text}}}
}

// TestTextsThatMayNotBe: such steps are as said, so that it is told whether they stand; but there is no sheet after them.
func TestTextsThatMayNotBe(t *testing.T) {
	start := sheetOf("A1: 0 | N: =A1")
	for _, text := range badTexts() {
		bad := setTo(text)
		one := setTo("1")
		for _, c := range []struct {
			steps []impl.Step
			want  account
		}{
			{[]impl.Step{bad}, account{"+", 1, 0}}, {[]impl.Step{one, bad}, account{"++", 2, 0}}, {[]impl.Step{bad, one}, account{"++", 2, 0}},
			// Where it does not stand at the end, it stood when it was done.
			{[]impl.Step{bad, {Undo: 1}}, account{"-+", 0, 2}}, {[]impl.Step{one, bad, {Undo: 2}}, account{"+-+", 1, 3}}, {[]impl.Step{one, bad, {Undo: 2}, one}, account{"+-++", 4, 3}}, {[]impl.Step{bad, {Undo: 1}, {Undo: 2}}, account{"+-+", 1, 0}},
		} {
			wantNotGood(t, fmt.Sprint(len(text), len(c.steps)), start, c.steps)
			wantAccount(t, fmt.Sprint(len(text), len(c.steps)), c.steps, c.want)
		}
		// Within a step it may be any, since it is done as a whole.
		for _, last := range []string{"", "5"} {
			hidden := impl.Step{Changes: []impl.Change{{Row: 1, Col: 1, Text: text}, {Row: 2, Col: 1, Text: "x"}, {Row: 1, Col: 1, Text: last}}}
			after := impl.WithChanges(start, hidden.Changes[1:])
			wantAfter(t, last, start, []impl.Step{hidden}, after)
			wantAfter(t, last, start, []impl.Step{hidden, {Undo: 1}}, start)
			wantAfter(t, last, start, []impl.Step{hidden, {Undo: 1}, {Undo: 2}}, after)
			wantAfter(t, last, start, []impl.Step{one, hidden, {Undo: 1}}, after)
			wantNotGood(t, last, start, []impl.Step{{Changes: []impl.Change{hidden.Changes[2], hidden.Changes[0]}}})
		}
	}
	for _, text := range []string{" ", "~", "=", "=1+", letters(2000), "=" + letters(1999), allBytes()} {
		wantAfter(t, text, start, []impl.Step{setTo(text)}, impl.WithChanges(start, setTo(text).Changes))
	}
}

// TestSheetsOnTheWay: after each step the sheet must be good, but not within it.
func TestSheetsOnTheWay(t *testing.T) {
	full := impl.Sheet{Cells: manyCells(300, "1"), Names: manyNames(40, "=A1")}
	less := impl.Sheet{Cells: full.Cells[:299], Names: full.Names}
	for _, c := range []struct {
		start impl.Sheet
		steps string
		last  bool
		all   bool
	}{
		{full, "A1: 2", true, true}, {full, "A1: ", true, true}, {less, "A16: 1", true, true},
		// One cell too many, at the end and where it is good again.
		{full, "A16: 1", false, false}, {full, "A16: 1 / A1: ", true, false}, {full, "A16: 1 / A16: ", true, false}, {full, "A16: 1 / -1", true, false}, {less, "A16: 1 | B16: 1", false, false}, {less, "A16: 1 / B16: 1", false, false}, {less, "A16: 1 / B16: 1 / -1", true, false}, {less, "A16: 1 / B16: 1 / -2", true, false}, {less, "A16: 1 / B16: 1 / B16:  / C16: ", true, false},
		// Within a step.
		{full, "A16: 1 | A1: ", true, true}, {full, "A1:  | A16: 1", true, true}, {full, "A16: 1 | B16: 2 | C16: 3 | A1:  | B1:  | C1: ", true, true}, {full, "A16: 1 | B16: 2 | C16: 3 | A1:  | B1: ", false, false},
		// By what is taken back: too many in the end, and where it is good again.
		{full, "A1:  / A16: 1", true, true}, {full, "A1:  / A16: 1 / -2", true, true}, {full, "A1:  / A16: 1 / -1", false, false}, {full, "A1:  / A16: 1 / -1 / -3", true, false}, {full, "A1:  / A16: 1 / -1 / -2", true, false}, {full, "A1:  / A16: 1 / -2 / -1", true, true}, {full, "A1:  / A16: 1 / -2 / -1 / -3", false, false},
		// Too many only on the way through the steps that stand: what they make together is good.
		{full, "A1:  / A16: 1 / B1:  / -1", true, true}, {full, "A1:  / A16: 1 / B1:  / -1 / -3", false, false}, {full, "A1:  / A16: 1 / B1:  / -1 / -4", true, true}, {full, "A1:  | B1:  / A16: 1 / B16: 1 / A2:  | B2:  / -1", true, true}, {full, "A1:  | B1:  / A16: 1 / B16: 1 / A2:  / -1", false, false}, {less, "A16: 1 / A1:  / B16: 1 / C1:  / -2", true, true},
	} {
		steps := stepsOf(c.steps)
		what := fmt.Sprintf("%d cells, %s", len(c.start.Cells), c.steps)
		var changes []impl.Change
		for i, is := range impl.Standing(steps) {
			if is {
				changes = append(changes, steps[i].Changes...)
			}
		}
		after := impl.WithChanges(c.start, changes)
		if isZeroSheet(after) == c.last {
			t.Errorf("%s: at the end there are %d cells", what, len(after.Cells))
		}
		if c.all {
			wantAfter(t, what, c.start, steps, after)
		} else {
			wantNotGood(t, what, c.start, steps)
		}
	}
}

func TestStartsOfSteps(t *testing.T) {
	for _, s := range goodSheets() {
		wantAfter(t, s, s, nil, s)
		wantAfter(t, s, s, []impl.Step{}, s)
		if len(s.Cells) < 300 {
			wantAfter(t, s, s, stepsOf("E9: 1 / -1"), s)
			wantAfter(t, s, s, stepsOf("E9: 1 / -1 / -2"), impl.WithChanges(s, changesOf("E9: 1")))
		}
	}
	for _, s := range append(noSheets(), sheetOf("A1: 1 | SUM: =1"), sheetOf("A1: 1 | n: =1"), sheetOf("A1: 1 | N: 1")) {
		wantNotGood(t, s, s, nil)
		wantNotGood(t, s, s, stepsOf("E9: 1"))
		wantNotGood(t, s, s, stepsOf("E9: 1 / -1"))
		// Steps that take its cells away do not make it good.
		var away impl.Step
		for _, c := range s.Cells {
			away.Changes = append(away.Changes, impl.Change{Row: c.Row, Col: c.Col})
		}
		away.Changes = away.Changes[:min(len(away.Changes), 20)]
		wantNotGood(t, s, s, []impl.Step{away})
	}
	// Whether steps stand is told whatever they are done on.
	wantAccount(t, "no start", stepsOf("E9: 1 / -1"), account{"-+", 0, 2})
}

// TestStepsAreNewMemory writes into answers and arguments, and asks again.
func TestStepsAreNewMemory(t *testing.T) {
	start, steps := sheetOf("A1: 0 | C3: 9 | M: =1 | N: =A1"), stepsOf("A1: 1 | B1: 2 / B1: 3 / -2 / D1: 4")
	for n := range len(steps) + 1 {
		want := cloned(impl.AfterSteps(start, steps[:n]))
		one, other := impl.AfterSteps(start, steps[:n]), impl.AfterSteps(start, steps[:n])
		_, _ = append(one.Cells, impl.Cell{Text: "?"}), append(one.Names, impl.Named{Text: "?"})
		clear(one.Cells)
		clear(one.Names)
		if !sameSheets(other, want) {
			t.Errorf("after %d steps %s when another answer is written into", n, toldSheet(other))
		}
		wantAfter(t, n, start, steps[:n], want)
		hurtStart, hurtSteps := cloned(start), clonedSteps(steps[:n])
		other = impl.AfterSteps(hurtStart, hurtSteps)
		clear(hurtStart.Cells)
		clear(hurtStart.Names)
		for i := range hurtSteps {
			clear(hurtSteps[i].Changes)
		}
		clear(hurtSteps)
		if !sameSheets(other, want) {
			t.Errorf("after %d steps %s when what was handed in is written into", n, toldSheet(other))
		}
		stand := impl.Standing(steps[:n])
		marks := standMarks(stand)
		clear(stand)
		if got := standMarks(impl.Standing(steps[:n])); got != marks {
			t.Errorf("%s stand, and then %s", marks, got)
		}
	}
	// Nothing is written behind what is handed in, either.
	room := append(make([]impl.Change, 0, 40), changesOf("A1: 1 | A2: 2 | A3: 3")...)
	shared := []impl.Step{{Changes: room[:1]}, {Changes: room[1:2]}, {Changes: room[:2]}, {Undo: 2}}
	spare := append(slices.Clone(shared), impl.Step{Undo: 99})
	wantAfter(t, "steps that share", start, spare[:4], sheetOf("A1: 1 | A2: 2 | C3: 9 | M: =1 | N: =A1"))
	if !slices.Equal(room[:4], append(changesOf("A1: 1 | A2: 2 | A3: 3"), impl.Change{})) || spare[4].Undo != 99 {
		t.Errorf("%v, %v", room[:4], spare)
	}
}
