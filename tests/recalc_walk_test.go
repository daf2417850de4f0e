package tests

import (
	"cmp"
	"maps"
	"math/rand"
	"slices"
	"testing"

	"loop.example/g00025/impl"
)

// The second way to what hangs on what: each formula is asked for each place by itself, and what follows from that is
// looked for again and again until nothing is new.

func walkedLinks(s impl.Sheet) []impl.Link {
	var out []impl.Link
	for to, c := range s.Cells {
		for from, d := range s.Cells {
			if refersTo(s, c.Text, d.Row, d.Col, nil) {
				out = append(out, impl.Link{From: from, To: to})
			}
		}
	}
	return out
}

// leastFirst takes the least that may come, one by one.
func leastFirst(links []impl.Link, cyclic []bool) []int {
	var out []int
	for {
		next := -1
		for n := len(cyclic) - 1; n >= 0; n-- {
			waits := slices.ContainsFunc(links, func(l impl.Link) bool {
				return l.To == n && !cyclic[l.From] && !slices.Contains(out, l.From)
			})
			if !cyclic[n] && !waits && !slices.Contains(out, n) {
				next = n
			}
		}
		if next < 0 {
			return out
		}
		out = append(out, next)
	}
}

// walkedChanged goes from the last change of each place; false where there is no sheet.
func walkedChanged(s impl.Sheet, changes []impl.Change) (impl.Sheet, bool) {
	if !impl.GoodSheet(s) || len(changes) > 1000 {
		return impl.Sheet{}, false
	}
	out := impl.Sheet{Names: s.Names}
	met := map[[2]int]bool{}
	take := func(row, col int, text string) {
		if !met[[2]int{row, col}] && text != "" {
			out.Cells = append(out.Cells, impl.Cell{Row: row, Col: col, Text: text})
		}
		met[[2]int{row, col}] = true
	}
	for i := len(changes) - 1; i >= 0; i-- {
		c := changes[i]
		if c.Row < 1 || c.Row > 1000 || c.Col < 1 || c.Col > 200 {
			return impl.Sheet{}, false
		}
		take(c.Row, c.Col, c.Text)
	}
	for _, c := range s.Cells {
		take(c.Row, c.Col, c.Text)
	}
	slices.SortFunc(out.Cells, func(a, b impl.Cell) int { return cmp.Or(cmp.Compare(a.Row, b.Row), cmp.Compare(a.Col, b.Col)) })
	if !impl.GoodSheet(out) {
		return impl.Sheet{}, false
	}
	return out, true
}

func textAt(s impl.Sheet, row, col int) string {
	for _, c := range s.Cells {
		if c.Row == row && c.Col == col {
			return c.Text
		}
	}
	return ""
}

func walkedTouched(s, after impl.Sheet) []int {
	touched := map[int]bool{}
	for n, c := range after.Cells {
		touched[n] = c.Text != textAt(s, c.Row, c.Col)
		for _, d := range s.Cells {
			gone := textAt(after, d.Row, d.Col) == ""
			touched[n] = touched[n] || gone && refersTo(after, c.Text, d.Row, d.Col, nil)
		}
	}
	links := walkedLinks(after)
	for again := true; again; {
		again = false
		for _, l := range links {
			if touched[l.From] && !touched[l.To] {
				touched[l.To], again = true, true
			}
		}
	}
	maps.DeleteFunc(touched, func(_ int, is bool) bool { return !is })
	return slices.Sorted(maps.Keys(touched))
}

// walkedDiffer asks for each place of both.
func walkedDiffer(a, b []impl.Shown) []impl.Shown {
	at := func(list []impl.Shown, row, col int) impl.Shown {
		for _, s := range list {
			if s.Row == row && s.Col == col {
				return s
			}
		}
		return impl.Shown{Row: row, Col: col}
	}
	var out []impl.Shown
	for _, list := range [][]impl.Shown{a, b} {
		for _, s := range list {
			was, is := at(a, s.Row, s.Col), at(b, s.Row, s.Col)
			if was != is && !slices.Contains(out, is) {
				out = append(out, is)
			}
		}
	}
	slices.SortFunc(out, func(a, b impl.Shown) int { return cmp.Or(cmp.Compare(a.Row, b.Row), cmp.Compare(a.Col, b.Col)) })
	return out
}

// changes are some of a sheet's places, and of such where no cell is.
func (c composer) changes(s impl.Sheet) []impl.Change {
	var out []impl.Change
	for range c.Intn(6) {
		next := impl.Change{Row: 1 + c.Intn(6), Col: 1 + c.Intn(5)}
		if len(s.Cells) > 0 && c.Intn(2) == 0 {
			old := s.Cells[c.Intn(len(s.Cells))]
			next = impl.Change{Row: old.Row, Col: old.Col, Text: old.Text}
		}
		switch c.Intn(8) {
		case 0, 1, 2:
			next.Text = ""
		case 3, 4:
			next.Text = c.text(c.Intn(3))
		case 5:
			next.Text = c.pick("={1,2}", "=SEQUENCE(2,2)", "=HSTACK(1,"+c.ref()+")", "=VSTACK(1,NOT("+c.ref()+"))", "="+c.ref()+":"+c.ref(), "=IF(ISBLANK("+c.ref()+"),{1;2},{3,4})")
		case 6:
			next.Text = c.pick("1", "2", "x", "TRUE", "'", "=1+", "#N/A")
		}
		out = append(out, next)
	}
	return out
}

// quiet is a sheet in which nothing is laid down.
func (c composer) quiet() impl.Sheet {
	s := sheetOf(c.pick("", "FOO: =A1+1 | FUN: =LAMBDA(x,x+B2)", "BAR: =foo*2 | FOO: =SUM(A1:B2) | FUN: =LAMBDA(x,bar-x)", "BAR: =foo | FOO: =bar+C3 | FUN: =A2"))
	for row := 1; row <= 5; row++ {
		for col := 1; col <= 4; col++ {
			if c.Intn(2) == 0 {
				s.Cells = append(s.Cells, impl.Cell{Row: row, Col: col, Text: c.quietText()})
			}
		}
	}
	return s
}

func (c composer) quietText() string {
	return c.pick("1", "2", "3", "x", "=1+", "="+c.ref(), "="+c.ref()+"+"+c.ref(), "=SUM("+c.ref()+":"+c.ref()+")", "=IF("+c.ref()+">1,"+c.ref()+",5)", "=IFERROR("+c.ref()+",7)", "=foo", "=bar+1", "=fun("+c.ref()+")", "=LET(foo,2,foo)", "=ISBLANK("+c.ref()+")", "=IF(ISBLANK("+c.ref()+"),1,0)", "=COUNT("+c.ref()+":"+c.ref()+")")
}

func (c composer) quietChanges() []impl.Change {
	var out []impl.Change
	for range 1 + c.Intn(3) {
		next := impl.Change{Row: 1 + c.Intn(5), Col: 1 + c.Intn(4)}
		if c.Intn(3) > 0 {
			next.Text = c.quietText()
		}
		out = append(out, next)
	}
	return out
}

// checkGraph holds what a sheet's cells need against the second way.
func checkGraph(t *testing.T, s impl.Sheet) {
	t.Helper()
	links, cyclic := walkedLinks(s), needingThemselves(s)
	if got := impl.Links(s); !slices.Equal(got, links) {
		t.Errorf("%s\n links %s\n want  %s", toldSheet(s), linkMarks(s, got), linkMarks(s, links))
	}
	if got := impl.InCycle(s); !slices.Equal(got, cyclic) {
		t.Errorf("%s\n in cycles %s\n want %s", toldSheet(s), cycleMarks(s, got), cycleMarks(s, cyclic))
	}
	if got, want := impl.Order(s), leastFirst(links, cyclic); !slices.Equal(got, want) {
		t.Errorf("%s\n order %s\n want  %s", toldSheet(s), placesOf(s, got), placesOf(s, want))
	}
}

// checkChanges holds what changes make of a good sheet against the second way, and gives it.
func checkChanges(t *testing.T, s impl.Sheet, changes []impl.Change) impl.Sheet {
	t.Helper()
	after, _ := walkedChanged(s, changes)
	if got := impl.WithChanges(s, changes); !sameSheets(got, after) {
		t.Errorf("%s with %v\n is   %s\n want %s", toldSheet(s), changes, toldSheet(got), toldSheet(after))
	}
	if got, want := impl.Touched(s, changes), walkedTouched(s, after); !slices.Equal(got, want) {
		t.Errorf("%s with %v\n touches %s\n want    %s", toldSheet(s), changes, placesOf(after, got), placesOf(after, want))
	}
	return after
}

// checkDiffer holds two lists against each other, and makes the second one of the first by what differs.
func checkDiffer(t *testing.T, a, b []impl.Shown) {
	t.Helper()
	differ := impl.Differ(a, b)
	if want := walkedDiffer(a, b); !slices.Equal(differ, want) {
		t.Errorf("%v and %v\n differ in %v\n want      %v", a, b, differ, want)
	}
	left := slices.DeleteFunc(slices.Clone(a), func(s impl.Shown) bool {
		return slices.ContainsFunc(differ, func(d impl.Shown) bool { return d.Row == s.Row && d.Col == s.Col })
	})
	for _, list := range [][]impl.Shown{impl.Differ(b, b), impl.Differ(nil, nil), walkedDiffer(b, append(left, differ...))} {
		if len(list) > 0 {
			t.Errorf("%v with %v is not %v", a, differ, b)
		}
	}
}

// checkUntouched asks that what is not touched is as it was, and that nothing differs besides.
func checkUntouched(t *testing.T, s, after impl.Sheet, changes []impl.Change, before, list []impl.Shown) {
	t.Helper()
	touched := impl.Touched(s, changes)
	for n, c := range after.Cells {
		if !slices.Contains(touched, n) {
			wantValue(t, toldSheet(s), changes, impl.ValueAt(list, c.Row, c.Col), impl.ValueAt(before, c.Row, c.Col))
		}
	}
	for _, d := range impl.Differ(before, list) {
		at := slices.IndexFunc(after.Cells, func(c impl.Cell) bool { return c.Row == d.Row && c.Col == d.Col })
		if at >= 0 && !slices.Contains(touched, at) || at < 0 && d != (impl.Shown{Row: d.Row, Col: d.Col}) {
			t.Errorf("%s with %v: %v differs", toldSheet(s), changes, d)
		}
	}
}

func laidDown(list []impl.Shown) bool {
	return slices.ContainsFunc(list, func(s impl.Shown) bool { return !s.From })
}

func TestRandomChanges(t *testing.T) {
	eachRandom(t, 100, func(t *testing.T, random *rand.Rand) {
		c := composer{Rand: random}
		s := c.sheet()
		if random.Intn(3) == 0 {
			s = c.restless()
		}
		changes := c.changes(s)
		was, asked := cloned(s), slices.Clone(changes)
		checkGraph(t, s)
		after := checkChanges(t, s, changes)
		before := impl.EvalSheet(s)
		list := impl.Recalc(s, before, changes)
		want, rounds := walkedSheet(after)
		if !slices.Equal(list, want) || !slices.Equal(list, impl.EvalSheet(after)) {
			t.Errorf("%s with %v\n shows %s\n want  %s", toldSheet(s), changes, listMarks(list), listMarks(want))
		}
		// Where nothing was given up, what lays nothing down is at rest at once.
		if _, roundsBefore := walkedSheet(s); rounds == 1 && roundsBefore == 1 && !laidDown(before) && !laidDown(list) {
			checkUntouched(t, s, after, changes, before, list)
		}
		checkDiffer(t, before, list)
		if !sameSheets(s, was) || !slices.Equal(changes, asked) || !slices.Equal(before, impl.EvalSheet(s)) {
			t.Errorf("%s with %v was written into", toldSheet(was), asked)
		}
	})
}

// TestUntouchedCells: where nothing is laid down and nothing goes on without an end, what is not touched is as it was.
func TestUntouchedCells(t *testing.T) {
	eachRandom(t, 250, func(t *testing.T, random *rand.Rand) {
		c := composer{Rand: random}
		s, changes := c.quiet(), c.quietChanges()
		checkGraph(t, s)
		after := checkChanges(t, s, changes)
		before, rounds := walkedSheet(s)
		want, roundsAfter := walkedSheet(after)
		list := impl.Recalc(s, before, changes)
		if rounds != 1 || roundsAfter != 1 || laidDown(before) || laidDown(list) || !slices.Equal(list, want) {
			t.Fatalf("%s with %v\n shows %s\n want  %s", toldSheet(s), changes, listMarks(list), listMarks(want))
		}
		checkUntouched(t, s, after, changes, before, list)
	})
}

// anyChanges may have any places and texts.
func anyChanges(c composer) []impl.Change {
	out := c.changes(anySheet(c))
	number := func() int {
		if c.Intn(2) == 0 {
			return farNumbers[c.Intn(len(farNumbers))]
		}
		return c.Intn(1003)
	}
	for i := range out {
		switch c.Intn(12) {
		case 0:
			out[i].Row, out[i].Col = number(), number()
		case 1:
			out[i].Row = number()
		case 2:
			text := make([]byte, c.Intn(30))
			c.Read(text)
			out[i].Text = string(text)
		case 3:
			out[i].Text = c.pick(badTexts()...)
		}
	}
	if c.Intn(20) == 0 && len(out) > 0 {
		out = slices.Repeat(out, 1+(998+c.Intn(6))/len(out))
	}
	return out
}

func anyShown(random *rand.Rand) []impl.Shown {
	var out []impl.Shown
	for range random.Intn(6) {
		s := impl.Shown{Row: random.Intn(4), Col: random.Intn(3), Value: anyValue(random), From: random.Intn(2) == 0}
		switch random.Intn(6) {
		case 0:
			s.Row = farNumbers[random.Intn(len(farNumbers))]
		case 1:
			s.Col = farNumbers[random.Intn(len(farNumbers))]
		case 2, 3:
			s.Value = numVal("1")
		case 4:
			s.Value = empty
		}
		out = append(out, s)
	}
	if random.Intn(4) > 0 {
		slices.SortFunc(out, func(a, b impl.Shown) int { return cmp.Or(cmp.Compare(a.Row, b.Row), cmp.Compare(a.Col, b.Col)) })
	}
	return out
}

// rising says whether each place stands behind the one ahead of it.
func rising(list []impl.Shown) bool {
	for i := range list {
		for _, s := range list[:i] {
			if s.Row > list[i].Row || s.Row == list[i].Row && s.Col >= list[i].Col {
				return false
			}
		}
	}
	return true
}

// TestAnyChanges: whatever it is given, each function answers, and writes nothing.
func TestAnyChanges(t *testing.T) {
	eachRandom(t, 300, func(t *testing.T, random *rand.Rand) {
		c := composer{Rand: random}
		s, changes, before, other := anySheet(c), anyChanges(c), anyShown(random), anyShown(random)
		was, asked, told, toldOther := cloned(s), slices.Clone(changes), slices.Clone(before), slices.Clone(other)
		if impl.GoodSheet(s) {
			checkGraph(t, s)
		} else if len(impl.Links(s))+len(impl.Order(s))+len(impl.InCycle(s)) > 0 {
			t.Errorf("%s: %v, %v, %v", toldSheet(s), impl.Links(s), impl.Order(s), impl.InCycle(s))
		}
		after := checkChanges(t, s, changes)
		if list, want := impl.Recalc(s, before, changes), impl.EvalSheet(after); !slices.Equal(list, want) {
			t.Errorf("%s with %v\n shows %s\n want  %s", toldSheet(s), changes, listMarks(list), listMarks(want))
		}
		if rising(before) && rising(other) {
			checkDiffer(t, before, other)
		} else if differ := impl.Differ(before, other); len(differ) > 0 {
			t.Errorf("%v and %v differ in %v", before, other, differ)
		}
		if !sameSheets(s, was) || !slices.Equal(changes, asked) || !slices.Equal(before, told) || !slices.Equal(other, toldOther) {
			t.Errorf("%s with %v was written into", toldSheet(was), asked)
		}
	})
}
