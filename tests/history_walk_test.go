package tests

import (
	"math/rand"
	"slices"
	"strconv"
	"testing"

	"loop.example/g00025/impl"
)

// The second way: whether a step stands is asked of each by itself, and a sheet is told place by place.

func asSaid(steps []impl.Step) bool {
	for i, s := range steps {
		for _, c := range s.Changes {
			if c.Row < 1 || c.Row > 1000 || c.Col < 1 || c.Col > 200 {
				return false
			}
		}
		makes := s.Undo == 0 && len(s.Changes) >= 1 && len(s.Changes) <= 20
		takes := s.Undo >= 1 && s.Undo-1 < i && len(s.Changes) == 0
		if !makes && !takes {
			return false
		}
	}
	return len(steps) <= 60
}

func walkedStands(steps []impl.Step, n int) bool {
	for later := n + 1; later <= len(steps); later++ {
		if steps[later-1].Undo == n && walkedStands(steps, later) {
			return false
		}
	}
	return true
}

func walkedAccount(steps []impl.Step) account {
	var out account
	if !asSaid(steps) {
		return out
	}
	for i, s := range steps {
		switch {
		case !walkedStands(steps, i+1):
			out.stand += "-"
			continue
		case s.Undo == 0:
			out.undo = i + 1
		case steps[s.Undo-1].Undo == 0:
			out.redo = i + 1
		}
		out.stand += "+"
	}
	return out
}

func withText(s impl.Sheet, c impl.Change) impl.Sheet {
	out := impl.Sheet{Names: s.Names}
	for _, old := range s.Cells {
		if old.Row != c.Row || old.Col != c.Col {
			out.Cells = append(out.Cells, old)
		}
	}
	if c.Text == "" {
		return out
	}
	at := slices.IndexFunc(out.Cells, func(d impl.Cell) bool { return d.Row > c.Row || d.Row == c.Row && d.Col > c.Col })
	if at < 0 {
		at = len(out.Cells)
	}
	out.Cells = slices.Insert(out.Cells, at, impl.Cell(c))
	return out
}

// walkedAfter asks ahead of the last step for those ahead of it; false where they are not good.
func walkedAfter(start impl.Sheet, steps []impl.Step) (impl.Sheet, bool) {
	if !impl.GoodSheet(start) || !asSaid(steps) {
		return impl.Sheet{}, false
	}
	if len(steps) > 0 {
		if _, good := walkedAfter(start, steps[:len(steps)-1]); !good {
			return impl.Sheet{}, false
		}
	}
	out := start
	for i, s := range steps {
		if !walkedStands(steps, i+1) {
			continue
		}
		for _, c := range s.Changes {
			out = withText(out, c)
		}
	}
	if !impl.GoodSheet(out) {
		return impl.Sheet{}, false
	}
	return out, true
}

func walkedDiff(a, b impl.Sheet) []impl.Change {
	var out []impl.Change
	for _, r := range placesIn(a, b) {
		if text := textAt(b, r.Row, r.Col); text != textAt(a, r.Row, r.Col) {
			out = append(out, impl.Change{Row: r.Row, Col: r.Col, Text: text})
		}
	}
	return out
}

// placesIn are all places of cells of sheets, rising.
func placesIn(sheets ...impl.Sheet) []impl.Ref {
	var all impl.Sheet
	for _, s := range sheets {
		for _, c := range s.Cells {
			all = withText(all, impl.Change(c))
		}
	}
	var out []impl.Ref
	for _, c := range all.Cells {
		out = append(out, cell(c.Row, c.Col))
	}
	return out
}

func nameText(s impl.Sheet, name string) string {
	for _, n := range s.Names {
		if n.Name == name {
			return n.Text
		}
	}
	return ""
}

// chosen is what is to stand, and whether the two sides clash.
func chosen(base, ours, theirs string) (string, bool) {
	if ours == base {
		return theirs, false
	}
	return ours, theirs != base && theirs != ours
}

func walkedMerged(base, ours, theirs impl.Sheet) impl.Merged {
	var out impl.Merged
	for _, s := range []impl.Sheet{base, ours, theirs} {
		if !impl.GoodSheet(s) {
			return impl.Merged{}
		}
	}
	for _, r := range placesIn(base, ours, theirs) {
		other := textAt(theirs, r.Row, r.Col)
		text, clash := chosen(textAt(base, r.Row, r.Col), textAt(ours, r.Row, r.Col), other)
		if text != "" {
			out.Sheet.Cells = append(out.Sheet.Cells, impl.Cell{Row: r.Row, Col: r.Col, Text: text})
		}
		if clash {
			out.Clash = append(out.Clash, impl.Change{Row: r.Row, Col: r.Col, Text: other})
		}
	}
	var names []string
	for _, n := range slices.Concat(base.Names, ours.Names, theirs.Names) {
		names = append(names, n.Name)
	}
	slices.Sort(names)
	for _, name := range slices.Compact(names) {
		if text, _ := chosen(nameText(base, name), nameText(ours, name), nameText(theirs, name)); text != "" {
			out.Sheet.Names = append(out.Sheet.Names, impl.Named{Name: name, Text: text})
		}
	}
	if len(out.Sheet.Cells) > 300 || len(out.Sheet.Names) > 40 {
		return impl.Merged{}
	}
	return out
}

// checkSteps holds steps against the second way, and gives the sheet after them.
func checkSteps(t *testing.T, start impl.Sheet, steps []impl.Step) (impl.Sheet, bool) {
	t.Helper()
	wantAccount(t, steps, steps, walkedAccount(steps))
	after, good := walkedAfter(start, steps)
	if good {
		wantAfter(t, steps, start, steps, after)
	} else {
		wantNotGood(t, steps, start, steps)
	}
	return after, good
}

// TestAllShortHistories has every history of up to six steps of which each changes a place of its own and one that all
// change, takes away what all change, or takes back any one ahead of it.
func TestAllShortHistories(t *testing.T) {
	start := sheetOf("A1: 0 | B9: 9 | N: =A1")
	var grow func(steps []impl.Step)
	grow = func(steps []impl.Step) {
		checkSteps(t, start, steps)
		n := len(steps) + 1
		if n > 6 {
			return
		}
		own := impl.Change{Row: n, Col: 2, Text: "x"}
		next := []impl.Step{{Changes: []impl.Change{{Row: 1, Col: 1, Text: strconv.Itoa(n)}, own}}, {Changes: []impl.Change{own, {Row: 1, Col: 1}}}}
		for back := 1; back < n; back++ {
			next = append(next, impl.Step{Undo: back})
		}
		for _, s := range next {
			grow(append(slices.Clip(steps), s))
		}
	}
	grow(nil)
}

// steps are changes of few places, and what takes steps back, not seldom what took back.
func (c composer) steps(most int) []impl.Step {
	var out []impl.Step
	for range c.Intn(most + 1) {
		var s impl.Step
		if len(out) > 0 && c.Intn(2) == 0 {
			s.Undo = 1 + c.Intn(len(out))
			if c.Intn(2) == 0 {
				s.Undo = len(out) - c.Intn(min(len(out), 3))
			}
		} else {
			for range 1 + c.Intn(4) {
				s.Changes = append(s.Changes, impl.Change{Row: 1 + c.Intn(3), Col: 1 + c.Intn(3), Text: c.pick("", "", "1", "2", "x", "=A1+1", "=B2", "=SUM(A1:C3)")})
			}
		}
		out = append(out, s)
	}
	return out
}

// checkBackAndAgain asks of good steps that one taken back leaves what the others make, and that it comes back.
func checkBackAndAgain(t *testing.T, start impl.Sheet, steps []impl.Step, after impl.Sheet) {
	t.Helper()
	marks := standMarks(impl.Standing(steps))
	for n := 1; n <= len(steps); n++ {
		back := append(slices.Clip(steps), impl.Step{Undo: n})
		again := append(slices.Clip(back), impl.Step{Undo: len(back)})
		checkSteps(t, start, back)
		wantAfter(t, again, start, again, after)
		if got := standMarks(impl.Standing(again)); got != marks+"-+" {
			t.Errorf("%v: %s stand, then %s", steps, marks, got)
		}
		if n == len(steps) {
			wantAfter(t, back, start, back, impl.AfterSteps(start, steps[:n-1]))
		}
		// Where it did not stand, nothing becomes of it.
		if marks[n-1] == '-' {
			wantAfter(t, back, start, back, after)
		}
	}
}

// checkByRedo goes back by LastUndo until no changes stand, and forth by LastRedo; steps are few enough for that.
func checkByRedo(t *testing.T, start impl.Sheet, steps []impl.Step, after impl.Sheet) {
	t.Helper()
	sheets := []impl.Sheet{after}
	for n := impl.LastUndo(steps); n > 0 && len(steps) < 60; n = impl.LastUndo(steps) {
		steps = append(slices.Clip(steps), impl.Step{Undo: n})
		if got := impl.LastRedo(steps); got != len(steps) {
			t.Errorf("%v: %d is to be done again", steps, got)
		}
		sheets = append(sheets, impl.AfterSteps(start, steps))
	}
	if last := sheets[len(sheets)-1]; !sameSheets(last, start) {
		t.Errorf("%v: when all is taken back there is %s", steps, toldSheet(last))
	}
	for i := len(sheets) - 2; i >= 0; i-- {
		steps = append(slices.Clip(steps), impl.Step{Undo: impl.LastRedo(steps)})
		wantAfter(t, steps, start, steps, sheets[i])
	}
}

func TestRandomSteps(t *testing.T) {
	eachRandom(t, 40, func(t *testing.T, random *rand.Rand) {
		c := composer{Rand: random}
		start, steps := c.sheet(), c.steps(14)
		after, good := checkSteps(t, start, steps)
		if !good {
			t.Fatalf("%s, %v: not good", toldSheet(start), steps)
		}
		checkBackAndAgain(t, start, steps, after)
		checkByRedo(t, start, steps, after)
	})
}

// TestRandomLongHistories has as many steps as may be, and one more.
func TestRandomLongHistories(t *testing.T) {
	eachRandom(t, 4, func(t *testing.T, random *rand.Rand) {
		c := composer{Rand: random}
		start := c.sheet()
		steps := c.steps(20)
		for len(steps) < 61 {
			more := c.steps(20)
			for i := range more {
				if more[i].Undo > 0 {
					more[i].Undo += len(steps)
				}
			}
			steps = append(steps, more...)
		}
		for _, many := range []int{59, 60, 61} {
			checkSteps(t, start, steps[:many])
		}
	})
}

// sides are a sheet and two others made of it, now and then by the same change.
func (c composer) sides() (impl.Sheet, impl.Sheet, impl.Sheet) {
	base := c.sheet()
	side := func() impl.Sheet {
		s := impl.WithChanges(base, c.changes(base))
		s.Names = nil
		for _, name := range []string{"BAR", "BAZ", "FOO", "FUN", "GUN", "X"} {
			text := nameText(base, name)
			if c.Intn(3) == 0 {
				text = c.pick("", "=1", "=2")
			}
			if text != "" {
				s.Names = append(s.Names, impl.Named{Name: name, Text: text})
			}
		}
		return s
	}
	ours, theirs := side(), side()
	for range c.Intn(4) {
		shared := impl.Change{Row: 1 + c.Intn(5), Col: 1 + c.Intn(4), Text: c.pick("", "1", "shared")}
		ours, theirs = withText(ours, shared), withText(theirs, shared)
	}
	return base, ours, theirs
}

func TestRandomMerges(t *testing.T) {
	clashes := 0
	for seed := range 8 {
		c := composer{Rand: rand.New(rand.NewSource(int64(seed)))}
		for range 300 {
			base, ours, theirs := c.sides()
			what := toldSheet(base) + "\n " + toldSheet(ours) + "\n " + toldSheet(theirs)
			want := walkedMerged(base, ours, theirs)
			wantMerged(t, what, base, ours, theirs, want)
			clashes += len(want.Clash)
			// Where nothing is changed on one side, or the same on both, it is the other one's.
			wantMerged(t, what, base, base, theirs, impl.Merged{Sheet: theirs})
			wantMerged(t, what, base, ours, base, impl.Merged{Sheet: ours})
			wantMerged(t, what, base, ours, ours, impl.Merged{Sheet: ours})
			wantDiff(t, what, base, ours, walkedDiff(base, ours))
			wantDiff(t, what, ours, theirs, walkedDiff(ours, theirs))
			checkKept(t, what, base, ours, theirs)
		}
	}
	if clashes < 300 {
		t.Errorf("only %d clashes", clashes)
	}
}

// checkKept asks that what one side changed is in the outcome, and that the sides clash at the same places either way.
func checkKept(t *testing.T, what string, base, ours, theirs impl.Sheet) {
	t.Helper()
	got, turned := impl.MergeSheets(base, ours, theirs), impl.MergeSheets(base, theirs, ours)
	own, others := impl.DiffSheets(base, ours), impl.DiffSheets(base, theirs)
	for _, c := range own {
		if textAt(got.Sheet, c.Row, c.Col) != c.Text {
			t.Errorf("%s: ours %v is lost", what, c)
		}
	}
	clash := slices.Clone(turned.Clash)
	for i, c := range clash {
		clash[i].Text = textAt(theirs, c.Row, c.Col)
	}
	if !slices.Equal(got.Clash, clash) {
		t.Errorf("%s: clash %v, the other way %v", what, got.Clash, turned.Clash)
	}
	for _, c := range others {
		if !slices.Contains(got.Clash, c) && textAt(got.Sheet, c.Row, c.Col) != c.Text {
			t.Errorf("%s: theirs %v is lost", what, c)
		}
	}
	// With theirs where they clash it is what the other way has.
	if after := impl.WithChanges(got.Sheet, got.Clash); !slices.Equal(after.Cells, turned.Sheet.Cells) {
		t.Errorf("%s:\n with theirs %s\n the other way %s", what, toldSheet(after), toldSheet(turned.Sheet))
	}
}

// anySteps may have any numbers, places and texts.
func anySteps(c composer) []impl.Step {
	out := c.steps(8)
	for i := range out {
		switch c.Intn(16) {
		case 0:
			out[i].Undo = farNumbers[c.Intn(len(farNumbers))]
		case 1:
			out[i].Undo = c.Intn(12) - 2
		case 2:
			out[i].Changes = anyChanges(c)
		case 3:
			out[i].Changes = append(out[i].Changes, c.changes(impl.Sheet{})...)
		case 4:
			if len(out[i].Changes) > 0 {
				out[i].Changes[0].Text = c.pick(badTexts()...)
			}
		}
	}
	if c.Intn(30) == 0 && len(out) > 0 {
		out = slices.Repeat(out, 1+(58+c.Intn(6))/len(out))
	}
	return out
}

// TestAnyHistories: whatever they are given, the functions answer, and write nothing.
func TestAnyHistories(t *testing.T) {
	good := 0
	for seed := range 8 {
		c := composer{Rand: rand.New(rand.NewSource(int64(seed)))}
		for range 300 {
			start := c.sheet()
			if c.Intn(3) == 0 {
				start = anySheet(c)
			}
			if _, is := checkSteps(t, start, anySteps(c)); is {
				good++
			}
			a, b := anySheet(c), anySheet(c)
			wantMerged(t, start, start, a, b, walkedMerged(start, a, b))
			wantMerged(t, start, a, start, b, walkedMerged(a, start, b))
			wantMerged(t, start, a, b, start, walkedMerged(a, b, start))
			if !impl.GoodSheet(a) || !impl.GoodSheet(b) {
				wantDiff(t, start, a, b, nil)
			} else {
				wantDiff(t, start, a, b, walkedDiff(a, b))
			}
		}
	}
	if good < 400 || good > 2000 {
		t.Errorf("%d of 2400 histories are good", good)
	}
}
