package tests

import (
	"cmp"
	"fmt"
	"maps"
	"math/rand"
	"regexp"
	"slices"
	"strconv"
	"strings"
	"testing"

	"loop.example/g00025/impl"
)

// The second way: blocks are gone through place by place, and a line is what a form takes whole; each line that made
// another sheet is kept with when it was undone.

// textsOf has a sheet's texts by places.
func textsOf(s impl.Sheet) map[impl.Ref]string {
	out := map[impl.Ref]string{}
	for _, c := range s.Cells {
		out[cell(c.Row, c.Col)] = c.Text
	}
	return out
}

// laidOut is the sheet with texts at places; false where it has too many.
func laidOut(texts map[impl.Ref]string, names []impl.Named) (impl.Sheet, bool) {
	out := impl.Sheet{Names: slices.Clone(names)}
	for r, text := range texts {
		if text != "" {
			out.Cells = append(out.Cells, impl.Cell{Row: r.Row, Col: r.Col, Text: text})
		}
	}
	slices.SortFunc(out.Cells, func(a, b impl.Cell) int { return cmp.Or(a.Row-b.Row, a.Col-b.Col) })
	if len(out.Cells) > 300 || len(out.Names) > 40 {
		return impl.Sheet{}, false
	}
	return out, true
}

// wayOf is where the cells of a move go; none where it does nothing.
func wayOf(m impl.Move) map[impl.Ref]impl.Ref {
	for _, n := range []int{m.From.From.Row, m.From.To.Row, m.Row} {
		if n < 1 || n > 1000 {
			return nil
		}
	}
	for _, n := range []int{m.From.From.Col, m.From.To.Col, m.Col} {
		if n < 1 || n > 200 {
			return nil
		}
	}
	return carried(m)
}

func walkedCopyBlock(s impl.Sheet, from impl.Area, row, col int) (impl.Sheet, bool) {
	way := wayOf(impl.Move{From: from, Row: row, Col: col})
	if way == nil || !impl.GoodSheet(s) {
		return impl.Sheet{}, false
	}
	was, texts := textsOf(s), textsOf(s)
	for r, goal := range way {
		texts[goal] = cmp.Or(filledText(was[r], r, goal.Row, goal.Col), was[r])
	}
	return laidOut(texts, s.Names)
}

// carriedText is a formula's text when cells are carried.
func carriedText(way map[impl.Ref]impl.Ref, text string) string {
	f := impl.ReadFormula(text)
	if f.Err != 0 {
		return text
	}
	return cmp.Or(impl.FormulaText(changed(f.Nodes, func(r impl.Ref) (impl.Ref, bool) {
		if goal, in := way[cell(r.Row, r.Col)]; in {
			return fixed(goal.Row, goal.Col, r), true
		}
		return r, true
	}, func(a impl.Area) (impl.Area, bool) { return carriedArea(way, a), true })), text)
}

// walkedMoveBlock: false where it does nothing, too.
func walkedMoveBlock(s impl.Sheet, m impl.Move) (impl.Sheet, bool) {
	way := wayOf(m)
	if way == nil || !impl.GoodSheet(s) {
		return impl.Sheet{}, false
	}
	was, texts := textsOf(s), textsOf(s)
	for r := range way {
		delete(texts, r)
	}
	for r, goal := range way {
		texts[goal] = was[r]
	}
	for r, text := range texts {
		texts[r] = carriedText(way, text)
	}
	var names []impl.Named
	for _, n := range s.Names {
		names = append(names, impl.Named{Name: n.Name, Text: carriedText(way, n.Text)})
	}
	return laidOut(texts, names)
}

func walkedSortBlock(s impl.Sheet, a impl.Area, keys []impl.SortKey) (impl.Sheet, bool) {
	if wayOf(impl.Move{From: a, Row: 1, Col: 1}) == nil || !impl.GoodSheet(s) {
		return impl.Sheet{}, false
	}
	top, left := min(a.From.Row, a.To.Row), min(a.From.Col, a.To.Col)
	g := impl.Grid{Rows: max(a.From.Row, a.To.Row) - top + 1, Cols: max(a.From.Col, a.To.Col) - left + 1}
	list := impl.EvalSheet(s)
	for n := 0; n < g.Rows*g.Cols && n <= 2000; n++ {
		g.Cells = append(g.Cells, impl.ValueAt(list, top+n/g.Cols, left+n%g.Cols))
	}
	rows := walkedSorted(g, keys)
	if rows == nil {
		return impl.Sheet{}, false
	}
	was, texts := textsOf(s), textsOf(s)
	for to, from := range rows {
		for col := left; col < left+g.Cols; col++ {
			r := cell(top+from, col)
			texts[cell(top+to, col)] = cmp.Or(filledText(was[r], r, top+to, col), was[r])
		}
	}
	return laidOut(texts, s.Names)
}

// madeLine is a line that made another sheet; undone is the number of the line that undid it, 0 of none.
type madeLine struct {
	line, undone  int
	before, after impl.Sheet
}

type walkedMacro struct {
	impl.Ran
	line int
	made []*madeLine
}

// makes takes up a sheet, if there is one, and says how the line ends.
func (w *walkedMacro) makes(s impl.Sheet, is bool) int {
	if !is || !impl.GoodSheet(s) {
		return 2
	}
	if toldSheet(s) != toldSheet(w.Sheet) {
		w.made = append(w.made, &madeLine{line: w.line, before: w.Sheet, after: s})
	}
	w.Sheet = s
	return 0
}

func (w *walkedMacro) tells(lines ...string) int {
	if len(w.Out)+len(lines) > 3000 {
		return 2
	}
	w.Out = append(w.Out, lines...)
	return 0
}

func (w *walkedMacro) shows(at string) string {
	r := placeIn(at)
	return walkedText(impl.ValueAt(impl.EvalSheet(w.Sheet), r.Row, r.Col))
}

func (w *walkedMacro) named(name, text string) (impl.Sheet, bool) {
	names := map[string]string{}
	for _, n := range w.Sheet.Names {
		names[n.Name] = n.Text
	}
	names[name] = text
	out := impl.Sheet{Cells: w.Sheet.Cells}
	for _, n := range slices.Sorted(maps.Keys(names)) {
		if names[n] != "" {
			out.Names = append(out.Names, impl.Named{Name: n, Text: names[n]})
		}
	}
	return out, len(out.Names) <= 40
}

func (w *walkedMacro) undoes() int {
	for _, m := range slices.Backward(w.made) {
		if m.undone == 0 {
			m.undone = w.line
			w.Sheet = m.before
			return 0
		}
	}
	return 2
}

func (w *walkedMacro) redoes() int {
	var last *madeLine
	for _, m := range w.made {
		if m.undone > 0 && (last == nil || m.undone > last.undone) {
			last = m
		}
	}
	if last == nil || slices.ContainsFunc(w.made, func(m *madeLine) bool { return m.line > last.undone }) {
		return 2
	}
	last.undone = 0
	w.Sheet = last.after
	return 0
}

func (w *walkedMacro) turns(m []string) int {
	turn := impl.Turn{Kind: map[string]int{"rows": 1, "cols": 2}[m[2]], At: countIn(m[3]), Many: countIn(m[4]), Delete: m[1] == "delete"}
	return w.makes(walkedPerform(w.Sheet, impl.Do{Kind: 2, Turn: turn}))
}

func countIn(text string) int {
	n, err := strconv.Atoi(text)
	if err != nil {
		panic(text)
	}
	return n
}

func (w *walkedMacro) prints(width, height int) int {
	if width < 20 || width > 200 || height < 1 || height > 100 {
		return 2
	}
	var out []string
	p := walkedPrintOf(w.Sheet)
	pages := p.pages(width, height)
	for i, page := range pages {
		out = append(out, fmt.Sprintf("Page %d of %d %s:%s", i+1, len(pages), impl.RefText(page.From), impl.RefText(page.To)))
		out = append(out, p.lines(page)...)
	}
	return w.tells(out...)
}

// A column is one of A to GR, a row one of 1 to 1000.
const (
	placeForm = `((?:[A-Z]|[A-F][A-Z]|G[A-R])(?:[1-9]\d{0,2}|1000))`
	areaForm  = placeForm + ":" + placeForm
	countForm = `(\d{1,4})`
	restForm  = `((?s:.+))`
)

var notNamed = regexp.MustCompile(`^(?:TRUE|FALSE|` + placeForm + `|R\d*|C\d*|R\d*C\d*)$`)

func isNamed(word string) bool { return !notNamed.MatchString(strings.ToUpper(word)) }

type lineForm struct {
	form *regexp.Regexp
	does func(w *walkedMacro, m []string) int
}

func formed(form string, does func(w *walkedMacro, m []string) int) lineForm {
	return lineForm{regexp.MustCompile("^(?:" + form + ")$"), does}
}

func wayIn(from, to, goal string) impl.Move {
	at := placeIn(goal)
	return impl.Move{From: readArea(from + ":" + to), Row: at.Row, Col: at.Col}
}

// lineForms: a line that none of them takes is no line.
var lineForms = []lineForm{
	formed("set "+placeForm+" "+restForm, func(w *walkedMacro, m []string) int {
		r := placeIn(m[1])
		after := withText(w.Sheet, impl.Change{Row: r.Row, Col: r.Col, Text: m[2]})
		return w.makes(after, true)
	}),
	formed("clear "+areaForm, func(w *walkedMacro, m []string) int {
		a, out := readArea(m[1]+":"+m[2]), impl.Sheet{Names: w.Sheet.Names}
		for _, c := range w.Sheet.Cells {
			if !holds(a, c.Row, c.Col) {
				out.Cells = append(out.Cells, c)
			}
		}
		return w.makes(out, true)
	}),
	formed(`name ([A-Z_][A-Z0-9_.]{0,19}) `+restForm, func(w *walkedMacro, m []string) int {
		if !isNamed(m[1]) {
			return 1
		}
		return w.makes(w.named(m[1], m[2]))
	}),
	formed(`forget ([A-Za-z_][A-Za-z0-9_.]{0,19})`, func(w *walkedMacro, m []string) int {
		if !isNamed(m[1]) {
			return 1
		}
		_, is := w.named(m[1], "")
		return w.makes(impl.Sheet{Cells: w.Sheet.Cells, Names: slices.DeleteFunc(slices.Clone(w.Sheet.Names), func(n impl.Named) bool { return n.Name == m[1] })}, is && nameText(w.Sheet, m[1]) != "")
	}),
	formed("(insert|delete) (rows|cols) "+countForm+" "+countForm, (*walkedMacro).turns),
	formed("copy "+areaForm+" "+placeForm, func(w *walkedMacro, m []string) int {
		way := wayIn(m[1], m[2], m[3])
		return w.makes(walkedCopyBlock(w.Sheet, way.From, way.Row, way.Col))
	}),
	formed("move "+areaForm+" "+placeForm, func(w *walkedMacro, m []string) int {
		return w.makes(walkedMoveBlock(w.Sheet, wayIn(m[1], m[2], m[3])))
	}),
	formed("sort "+areaForm+" "+countForm+"( down)?", func(w *walkedMacro, m []string) int {
		return w.makes(walkedSortBlock(w.Sheet, readArea(m[1]+":"+m[2]), []impl.SortKey{{Col: countIn(m[3]), Down: m[4] != ""}}))
	}),
	formed("show "+placeForm, func(w *walkedMacro, m []string) int { return w.tells(m[1] + " = " + w.shows(m[1])) }),
	formed("show "+areaForm, func(w *walkedMacro, m []string) int {
		p := pageOf(m[1] + ":" + m[2])
		if p.From.Row > p.To.Row || p.From.Col > p.To.Col {
			return 2
		}
		return w.tells(walkedPrintOf(w.Sheet).lines(p)...)
	}),
	formed("print "+countForm+" "+countForm, func(w *walkedMacro, m []string) int { return w.prints(countIn(m[1]), countIn(m[2])) }),
	formed("check "+placeForm+" "+restForm, func(w *walkedMacro, m []string) int {
		if w.shows(m[1]) != m[2] {
			return 3
		}
		return 0
	}),
	formed("undo", func(w *walkedMacro, _ []string) int { return w.undoes() }),
	formed("redo", func(w *walkedMacro, _ []string) int { return w.redoes() }),
}

// does has one line more done; false where the run is over.
func (w *walkedMacro) does(line string) bool {
	w.line++
	for _, f := range lineForms {
		if m := f.form.FindStringSubmatch(line); m != nil {
			if w.Err = f.does(w, m); w.Err != 0 {
				w.Line = w.line
			}
			return w.Err == 0
		}
	}
	w.Err, w.Line = 1, w.line
	return false
}

func walkedRun(start impl.Sheet, text string) impl.Ran {
	if !impl.GoodSheet(start) {
		return impl.Ran{Err: 2}
	}
	w := &walkedMacro{Ran: impl.Ran{Sheet: start}}
	lines := strings.SplitAfter(text, "\n")
	if last := lines[len(lines)-1]; last != "" || len(text) > 10000 || len(lines) > 101 {
		w.Err = 1
		return w.Ran
	}
	for _, line := range lines[:len(lines)-1] {
		if !w.does(strings.TrimSuffix(line, "\n")) {
			break
		}
	}
	return w.Ran
}

func walkedMacroOf(a, b impl.Sheet) string {
	if !impl.GoodSheet(a) || !impl.GoodSheet(b) {
		return ""
	}
	var forgets, names, clears, sets []string
	for _, n := range a.Names {
		if nameText(b, n.Name) == "" {
			forgets = append(forgets, "forget "+n.Name+"\n")
		}
	}
	for _, n := range b.Names {
		if nameText(a, n.Name) != n.Text {
			names = append(names, "name "+n.Name+" "+n.Text+"\n")
		}
	}
	for _, c := range a.Cells {
		if textAt(b, c.Row, c.Col) == "" {
			clears = append(clears, strings.ReplaceAll("clear #:#\n", "#", impl.RefText(cell(c.Row, c.Col))))
		}
	}
	for _, c := range b.Cells {
		if textAt(a, c.Row, c.Col) != c.Text {
			sets = append(sets, "set "+impl.RefText(cell(c.Row, c.Col))+" "+c.Text+"\n")
		}
	}
	all := slices.Concat(forgets, names, clears, sets)
	if text := strings.Join(all, ""); len(all) <= 100 && len(text) <= 10000 {
		return text
	}
	return ""
}

func (c composer) areaText() string { return c.ref() + ":" + c.ref() }

// macroLine is one that may mostly be done when a run has come so far.
func (c composer) macroLine(w *walkedMacro) string {
	at := c.ref()
	switch c.Intn(22) {
	case 0, 1:
		return "set " + at + " " + c.quietText()
	case 2:
		return "set " + at + " " + c.pick("1", "2", "b", "a", " ", "= a1 + b2", "='", "={1,2}", "=SEQUENCE(2)", "=$A$1+B$2", "=SUM(A1:B3)", "=A999+GR1", c.text(2))
	case 3:
		// What is there already, told again.
		return "set " + at + " " + cmp.Or(textAt(w.Sheet, placeIn(at).Row, placeIn(at).Col), "x")
	case 4:
		return "clear " + c.pick(c.areaText(), at+":"+at, "A1:GR1000", "E5:F6")
	case 5:
		return "name " + c.pick("FOO", "BAR", "FUN", "X") + " " + c.pick("=1", "=A1+B2", "= a1", "=LAMBDA(x,x+1)", "=1+", "=SUM(B2:C3)")
	case 6:
		if len(w.Sheet.Names) > 0 {
			return "forget " + w.Sheet.Names[c.Intn(len(w.Sheet.Names))].Name
		}
	case 7:
		return fmt.Sprintf("insert %s %d %d", c.pick("rows", "cols"), 1+c.Intn(6), 1+c.Intn(2))
	case 8:
		return fmt.Sprintf("delete %s %d %d", c.pick("rows", "cols"), 1+c.Intn(6), 1+c.Intn(2))
	case 9, 10:
		return "copy " + c.areaText() + " " + at
	case 11, 12:
		return "move " + c.pick(c.areaText(), at+":"+at) + " " + c.ref()
	case 13, 14:
		return "sort " + c.areaText() + c.pick(" 1", " 1", " 1 down", " 01", " 2")
	case 15:
		return "show " + at
	case 16:
		return c.pick("show A1:D5", "show B2:C9", "show "+at+":"+at, "print 20 2", "print 30 100", "show "+at+":E6")
	case 17:
		return "check " + at + " " + cmp.Or(w.shows(at), "?")
	case 18, 19:
		return "undo"
	case 20:
		return "redo"
	}
	return "show " + at
}

// hurtLine is one that is mostly none.
func (c composer) hurtLine(line string) string {
	at := c.Intn(len(line) + 1)
	switch c.Intn(7) {
	case 0:
		return line + " "
	case 1:
		return line[:at] + c.pick(" ", "1", "$", "A", "a", ":", "0", "\t", "\r", "\xff") + line[at:]
	case 2:
		return line[:at]
	case 3:
		return strings.Replace(line, " ", "  ", 1)
	case 4:
		return strings.ToLower(line)
	case 5:
		return line + " " + c.pick("1", "down", "A1", "x")
	}
	return c.pick("", " ", "show B2:A1", "move A1:B2 GR1000", "copy A1:C1 GR5", "sort A1:B2 9", "print 10 10", "insert rows 0 1", "name SUM =1", "forget NOSUCH", "check A1 ?", "set GS1 1", "undo undo", "name N 1")
}

// macro is one of random lines for a start, each for what the ones ahead made.
func (c composer) macro(start impl.Sheet, most int) string {
	w := &walkedMacro{Ran: impl.Ran{Sheet: start}}
	var lines []string
	for range c.Intn(most) {
		line := c.macroLine(w)
		canUndo := slices.ContainsFunc(w.made, func(m *madeLine) bool { return m.undone == 0 })
		canRedo := slices.ContainsFunc(w.made, func(m *madeLine) bool { return m.undone > 0 })
		if line == "undo" && !canUndo && c.Intn(10) > 0 || line == "redo" && !canRedo && c.Intn(10) > 0 {
			line = "show A1"
		}
		if c.Intn(60) == 0 {
			line = c.hurtLine(line)
		}
		lines = append(lines, line+"\n")
		if !w.does(line) && c.Intn(2) == 0 {
			break
		}
	}
	return strings.Join(lines, "")
}

func TestRandomMacros(t *testing.T) {
	ends := make([][4]int, 8)
	t.Run("random", func(t *testing.T) {
		for seed := range 8 {
			t.Run(strconv.Itoa(seed), func(t *testing.T) {
				t.Parallel()
				c := composer{Rand: rand.New(rand.NewSource(int64(seed)))}
				for range 100 {
					start := c.quiet()
					if c.Intn(3) == 0 {
						start = c.sheet()
					}
					text := c.macro(start, 25)
					want := walkedRun(start, text)
					ends[seed][want.Err]++
					wantRan(t, start, text, want)
				}
			})
		}
	})
	for err := range 4 {
		n := 0
		for _, e := range ends {
			n += e[err]
		}
		if n < 10 {
			t.Errorf("only %d runs end with Err %d", n, err)
		}
	}
}

// TestRunsInParts: a run may be gone on with, as long as nothing is undone beyond where it was left.
func TestRunsInParts(t *testing.T) {
	eachRandom(t, 40, func(t *testing.T, random *rand.Rand) {
		c := composer{Rand: random}
		start := c.quiet()
		text := strings.NewReplacer("undo\n", "", "redo\n", "").Replace(c.macro(start, 12))
		lines := strings.SplitAfter(text, "\n")
		at := random.Intn(len(lines))
		whole := impl.RunMacro(start, text)
		first := impl.RunMacro(start, strings.Join(lines[:at], ""))
		if first.Err != 0 {
			if !sameRuns(first, whole) {
				t.Errorf("%q on %s is %s, and its first %d lines are %s", text, toldSheet(start), toldRan(whole), at, toldRan(first))
			}
			return
		}
		rest := impl.RunMacro(first.Sheet, strings.Join(lines[at:], ""))
		rest.Out = slices.Concat(first.Out, rest.Out)
		if rest.Err != 0 {
			rest.Line += at
		}
		if !sameRuns(rest, whole) {
			t.Errorf("%q on %s is %s, and in parts from line %d on %s", text, toldSheet(start), toldRan(whole), at, toldRan(rest))
		}
	})
}

func TestRandomMacrosOfSheets(t *testing.T) {
	eachRandom(t, 150, func(t *testing.T, random *rand.Rand) {
		c := composer{Rand: random}
		a, b, d := c.sides()
		for _, pair := range [][2]impl.Sheet{{a, b}, {b, a}, {b, d}, {a, a}, {c.sheet(), c.sheet()}, {anySheet(c), d}, {d, anySheet(c)}} {
			wantMacro(t, pair[0], pair[1], walkedMacroOf(pair[0], pair[1]))
		}
	})
}

func TestRandomBlocks(t *testing.T) {
	eachRandom(t, 300, func(t *testing.T, random *rand.Rand) {
		c := composer{Rand: random}
		s := c.sheet()
		if random.Intn(2) == 0 {
			s = c.quiet()
		}
		a, goal := readArea(c.areaText()), placeIn(c.ref())
		switch random.Intn(6) {
		case 0:
			s = atTheEnd(s)
			a = area(1000-random.Intn(5), 200-random.Intn(4), 1000-random.Intn(5), 200-random.Intn(4))
			goal = cell(1000-random.Intn(5), 200-random.Intn(4))
		case 1:
			goal = cell(1+random.Intn(1000), 1+random.Intn(200))
		case 2:
			s = anySheet(c)
			m := anyMove(random)
			a, goal = m.From, cell(m.Row, m.Col)
		}
		m := impl.Move{From: a, Row: goal.Row, Col: goal.Col}
		copied, _ := walkedCopyBlock(s, a, goal.Row, goal.Col)
		wantCopied(t, s, a, goal.Row, goal.Col, copied)
		moved, does := walkedMoveBlock(s, m)
		if !does && impl.GoodSheet(s) {
			moved = s
		}
		wantMovedBlock(t, s, m, moved)
		cols := 1
		if impl.GoodArea(a) {
			cols = max(a.From.Col, a.To.Col) - min(a.From.Col, a.To.Col) + 1
		}
		keys := c.keys(cols)
		sorted, _ := walkedSortBlock(s, a, keys)
		wantSortedBlock(t, s, a, keys, sorted)
	})
}

// anyMove may have any numbers, but no great areas.
func anyMove(random *rand.Rand) impl.Move {
	number := func() int {
		switch random.Intn(6) {
		case 0:
			return farNumbers[random.Intn(len(farNumbers))]
		case 1:
			return int(random.Uint64())
		}
		return random.Intn(7)
	}
	ref := func() impl.Ref { return fixed(number(), number(), fixings[random.Intn(4)]) }
	return impl.Move{From: impl.Area{From: ref(), To: ref()}, Row: number(), Col: number()}
}

// partlyHeld is whether an area of a sheet's formulas holds cells of a block and others.
func partlyHeld(s impl.Sheet, way map[impl.Ref]impl.Ref) bool {
	for _, a := range areasIn(s) {
		in, all := 0, (a.To.Row-a.From.Row+1)*(a.To.Col-a.From.Col+1)
		for r := range way {
			if holds(a, r.Row, r.Col) {
				in++
			}
		}
		if in > 0 && in < all {
			return true
		}
	}
	return false
}

// areasIn are all that the formulas of a sheet and of its names refer to.
func areasIn(s impl.Sheet) []impl.Area {
	var out []impl.Area
	for _, c := range s.Cells {
		out = append(out, impl.UsedAreas(impl.ReadFormula(c.Text).Nodes)...)
	}
	for _, n := range s.Names {
		out = append(out, impl.UsedAreas(impl.ReadFormula(n.Text).Nodes)...)
	}
	return out
}

// isMeant is whether something stands at the goal of a move that does not go with it, or a formula refers to it.
func isMeant(s impl.Sheet, way map[impl.Ref]impl.Ref) bool {
	texts := textsOf(s)
	for _, goal := range way {
		if _, goes := way[goal]; goes {
			continue
		}
		if texts[goal] != "" || slices.ContainsFunc(areasIn(s), func(a impl.Area) bool { return holds(a, goal.Row, goal.Col) }) {
			return true
		}
	}
	return false
}

// blockSheet is one whose formulas refer to cells of a small block, or to cells beside it, but to no part of it and more.
func (c composer) blockSheet() impl.Sheet {
	s := sheetOf(c.pick("", "FOO: =A1+1 | FUN: =LAMBDA(x,x+B2)", "BAR: =foo*2 | FOO: =SUM(A1:B2) | FUN: =LAMBDA(x,bar-$C$3)"))
	part := func() string {
		switch c.Intn(6) {
		case 0:
			return c.pick("SUM(A1:B3)", "COUNT(B3:$A$2)", "MAX(A1:A2)", "SUM(C1:D5)", "COUNT(A4:D5)", "SUM($D$5:C4)")
		case 1:
			return c.pick("foo", "bar", "fun(2)", "fun(A2)", "LET(x,B1,x*x)")
		case 2:
			return c.pick("IF(A1>1,B2,C3)", "IFERROR(1/B3,$C$1)", "ISBLANK(A3)", "C2", "D$5")
		}
		return c.pick("A", "B", "$A", "$B", "A$", "$B$") + strconv.Itoa(1+c.Intn(3))
	}
	for row := 1; row <= 5; row++ {
		for col := 1; col <= 4; col++ {
			if c.Intn(2) == 0 {
				s.Cells = append(s.Cells, impl.Cell{Row: row, Col: col, Text: c.pick("1", "2", "3.5", "x", "TRUE", "=1+", "="+part(), "="+part()+"+"+part(), "= "+part()+" * 2")})
			}
		}
	}
	return s
}

// TestMovedBlocksShowWhatTheyShowed: promise 18, for the block and all that stands beside it.
func TestMovedBlocksShowWhatTheyShowed(t *testing.T) {
	asked := make([]int, 8)
	t.Run("random", func(t *testing.T) {
		for seed := range 8 {
			t.Run(strconv.Itoa(seed), func(t *testing.T) {
				t.Parallel()
				c := composer{Rand: rand.New(rand.NewSource(int64(seed)))}
				for range 400 {
					s, a := c.blockSheet(), readArea("A1:B3")
					if c.Intn(3) == 0 {
						s, a = c.quiet(), readArea(c.areaText())
					}
					m := impl.Move{From: a, Row: 1 + c.Intn(12), Col: 1 + c.Intn(12)}
					if c.Intn(4) == 0 {
						m.Row, m.Col = 1+c.Intn(996), 1+c.Intn(197)
					}
					way := wayOf(m)
					if way == nil || partlyHeld(s, way) || isMeant(s, way) || !givesCells(s) {
						continue
					}
					asked[seed]++
					checkShowsAsBefore(t, s, m, way)
				}
			})
		}
	})
	for seed, n := range asked {
		if n < 60 {
			t.Errorf("%d: only %d moves", seed, n)
		}
	}
}

func checkShowsAsBefore(t *testing.T, s impl.Sheet, m impl.Move, way map[impl.Ref]impl.Ref) {
	t.Helper()
	want := impl.EvalSheet(s)
	for i, shown := range want {
		if goal, goes := way[cell(shown.Row, shown.Col)]; goes {
			want[i].Row, want[i].Col = goal.Row, goal.Col
		}
	}
	slices.SortFunc(want, func(a, b impl.Shown) int { return cmp.Or(a.Row-b.Row, a.Col-b.Col) })
	if got := impl.EvalSheet(impl.MoveBlock(s, m)); !slices.Equal(got, want) {
		t.Errorf("%s by %v\n shows %s\n want  %s", toldSheet(s), m, listMarks(got), listMarks(want))
	}
}

// anyMacro has lines of any bytes among others.
func (c composer) anyMacro(start impl.Sheet) string {
	text := c.macro(start, 8)
	for range 1 + c.Intn(3) {
		at := c.Intn(len(text) + 1)
		wild := make([]byte, c.Intn(8))
		c.Read(wild)
		switch c.Intn(4) {
		case 0:
			text = text[:at]
		case 1:
			text = text[:at] + string(wild) + text[at:]
		case 2:
			text += c.hurtLine("sort A1:B2 1 down") + "\n"
		case 3:
			text = strings.Repeat(text, c.Intn(20))
		}
	}
	return text
}

// TestAnyMacros: whatever it is given, the run answers as the second way does, and writes nothing.
func TestAnyMacros(t *testing.T) {
	eachRandom(t, 150, func(t *testing.T, random *rand.Rand) {
		c := composer{Rand: random}
		start := c.quiet()
		text := c.anyMacro(start)
		if random.Intn(3) == 0 {
			start = anySheet(c)
		}
		wantRan(t, start, text, walkedRun(start, text))
	})
}
