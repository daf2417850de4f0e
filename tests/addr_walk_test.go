package tests

import (
	"fmt"
	"math/rand"
	"testing"

	"loop.example/g00025/impl"
)

// walkedCols: the names of the columns from 1 on, told letter by letter.
func walkedCols() []string {
	names := []string{""}
	for _, first := range " ABCDEFGHIJKLMNOPQRSTUVWXYZ" {
		for _, last := range "ABCDEFGHIJKLMNOPQRSTUVWXYZ" {
			name := string(first) + string(last)
			if first == ' ' {
				name = string(last)
			}
			names = append(names, name)
		}
	}
	return names
}

// eachRef goes through all good refs, fixed in each way.
func eachRef(visit func(r impl.Ref)) {
	for row := 1; row <= impl.MaxRow; row++ {
		for col := 1; col <= impl.MaxCol; col++ {
			for _, fix := range fixings {
				visit(fixed(row, col, fix))
			}
		}
	}
}

// toldRef: a ref in the first notation, told by the library.
func toldRef(names []string, r impl.Ref) string {
	dollar := map[bool]string{true: "$"}
	return fmt.Sprintf("%s%s%s%d", dollar[r.ColFix], names[r.Col], dollar[r.RowFix], r.Row)
}

// toldBy: a ref in the second notation, told by the library.
func toldBy(r impl.Ref, row, col int) string {
	part := func(letter string, at, home int, fix bool) string {
		if fix {
			return fmt.Sprintf("%s%d", letter, at)
		}
		if at == home {
			return letter
		}
		return fmt.Sprintf("%s[%d]", letter, at-home)
	}
	return part("R", r.Row, row, r.RowFix) + part("C", r.Col, col, r.ColFix)
}

func TestEveryColumn(t *testing.T) {
	for n, name := range walkedCols() {
		if n > impl.MaxCol {
			if got := impl.ColNumber(name); got != 0 {
				t.Errorf("ColNumber(%q) = %d, want 0", name, got)
			}
			if got := impl.ColName(n); got != "" {
				t.Errorf("ColName(%d) = %q, want none", n, got)
			}
			continue
		}
		if got := impl.ColName(n); got != name {
			t.Errorf("ColName(%d) = %q, want %q", n, got, name)
		}
		if got := impl.ColNumber(name); got != n {
			t.Errorf("ColNumber(%q) = %d, want %d", name, got, n)
		}
	}
}

func TestEveryShortColumnName(t *testing.T) {
	known := map[string]int{}
	for n, name := range walkedCols() {
		if n <= impl.MaxCol {
			known[name] = n
		}
	}
	for first := range 256 {
		one := string([]byte{byte(first)})
		if got := impl.ColNumber(one); got != known[one] {
			t.Errorf("ColNumber(%q) = %d, want %d", one, got, known[one])
		}
		for last := range 256 {
			two := string([]byte{byte(first), byte(last)})
			if got := impl.ColNumber(two); got != known[two] {
				t.Errorf("ColNumber(%q) = %d, want %d", two, got, known[two])
			}
		}
	}
}

func TestEveryRef(t *testing.T) {
	names := walkedCols()
	wrong := 0
	eachRef(func(r impl.Ref) {
		want := toldRef(names, r)
		got := impl.RefText(r)
		read, ok := impl.ReadRef(want)
		if got != want || !ok || read != r {
			wrong++
			if wrong < 10 {
				t.Errorf("RefText(%v) = %q, want %q, read as %v, %v", r, got, want, read, ok)
			}
		}
	})
}

func TestEveryRefByPlaces(t *testing.T) {
	homes := []impl.Ref{cell(1, 1), cell(impl.MaxRow, impl.MaxCol), cell(500, 100)}
	wrong := 0
	at := 0
	eachRef(func(r impl.Ref) {
		home := homes[at%len(homes)]
		at++
		want := toldBy(r, home.Row, home.Col)
		got := impl.RefTextBy(r, home.Row, home.Col)
		read, ok := impl.ReadRefBy(want, home.Row, home.Col)
		if got != want || !ok || read != r {
			wrong++
			if wrong < 10 {
				t.Errorf("RefTextBy(%v, %v) = %q, want %q, read as %v, %v", r, home, got, want, read, ok)
			}
		}
	})
}

func TestNearRefsByEveryPlace(t *testing.T) {
	steps := []int{-impl.MaxRow, -2, -1, 0, 1, 2, impl.MaxCol}
	for row := 1; row <= impl.MaxRow; row += 37 {
		for col := 1; col <= impl.MaxCol; col++ {
			for _, down := range steps {
				for _, right := range steps {
					checkSeen(t, fixed(row+down, col+right, fixings[(row+col)%4]), row, col)
				}
			}
		}
	}
}

func checkSeen(t *testing.T, r impl.Ref, row, col int) {
	t.Helper()
	text := toldBy(r, row, col)
	got := impl.RefTextBy(r, row, col)
	read, ok := impl.ReadRefBy(text, row, col)
	if !impl.GoodRef(r) {
		if got != "" || ok || read != (impl.Ref{}) {
			t.Errorf("%v by %d, %d: told %q, read %v, %v, want none", r, row, col, got, read, ok)
		}
		return
	}
	if got != text || !ok || read != r {
		t.Errorf("%v by %d, %d: told %q, want %q, read %v, %v", r, row, col, got, text, read, ok)
	}
}

// eachText goes through all texts of at most the length that have these bytes alone.
func eachText(letters string, length int, visit func(text string)) {
	text := make([]byte, 0, length)
	var grow func()
	grow = func() {
		visit(string(text))
		if len(text) == length {
			return
		}
		for i := range len(letters) {
			text = append(text, letters[i])
			grow()
			text = text[:len(text)-1]
		}
	}
	grow()
}

// hurt: the text with one byte put in, taken out or made another.
func hurt(text string, visit func(text string)) {
	for i := 0; i <= len(text); i++ {
		for b := range 256 {
			visit(text[:i] + string([]byte{byte(b)}) + text[i:])
			if i < len(text) {
				visit(text[:i] + string([]byte{byte(b)}) + text[i+1:])
			}
		}
		if i < len(text) {
			visit(text[:i] + text[i+1:])
		}
	}
}

func TestShortAndHurtTexts(t *testing.T) {
	names := walkedCols()
	known := map[string]impl.Ref{}
	eachRef(func(r impl.Ref) { known[toldRef(names, r)] = r })
	check := func(text string) {
		want, is := known[text]
		if got, ok := impl.ReadRef(text); ok != is || got != want {
			t.Errorf("ReadRef(%q) = %v, %v, want %v, %v", text, got, ok, want, is)
		}
	}
	eachText("$AGRSa01 -", 5, check)
	for _, c := range knownRefs {
		hurt(c.text, check)
	}
}

func TestShortAndHurtTextsBy(t *testing.T) {
	for _, home := range []impl.Ref{cell(1, 1), cell(5, 6), cell(impl.MaxRow, impl.MaxCol)} {
		known := map[string]impl.Ref{}
		eachRef(func(r impl.Ref) { known[toldBy(r, home.Row, home.Col)] = r })
		check := func(text string) {
			want, is := known[text]
			if got, ok := impl.ReadRefBy(text, home.Row, home.Col); ok != is || got != want {
				t.Errorf("ReadRefBy(%q, %v) = %v, %v, want %v, %v", text, home, got, ok, want, is)
			}
		}
		eachText("RC[]-+015", 5, check)
		for _, c := range knownSeen {
			hurt(c.text, check)
		}
	}
}

const squareSide = 4

// squareRefs: the cells of a small square at a place, each fixed in some way.
func squareRefs(from impl.Ref, random *rand.Rand) []impl.Ref {
	var out []impl.Ref
	for row := range squareSide {
		for col := range squareSide {
			out = append(out, fixed(from.Row+row, from.Col+col, fixings[random.Intn(4)]))
		}
	}
	return out
}

// holds: whether a cell is in an area, whichever way round it is told.
func holds(a impl.Area, row, col int) bool {
	rows := row >= a.From.Row && row <= a.To.Row || row <= a.From.Row && row >= a.To.Row
	cols := col >= a.From.Col && col <= a.To.Col || col <= a.From.Col && col >= a.To.Col
	return rows && cols
}

// plain: whether it is a normal area with no fixes.
func plain(a impl.Area) bool {
	return a == area(a.From.Row, a.From.Col, a.To.Row, a.To.Col) && a.From.Row <= a.To.Row && a.From.Col <= a.To.Col && impl.GoodArea(a)
}

// checkCells holds Meet, Hull and Without against each other cell by cell.
func checkCells(t *testing.T, a, b impl.Area, from impl.Ref) {
	t.Helper()
	meet, meets := impl.Meet(a, b)
	hull := impl.Hull(a, b)
	without := impl.Without(a, b)
	if meets && !plain(meet) || !meets && meet != (impl.Area{}) || !plain(hull) || len(without) > 4 {
		t.Errorf("%v, %v: Meet %v, %v, Hull %v, Without %v", a, b, meet, meets, hull, without)
	}
	for _, w := range without {
		if !plain(w) {
			t.Errorf("Without(%v, %v) has %v", a, b, w)
		}
	}
	both := 0
	for row := from.Row; row < from.Row+squareSide; row++ {
		for col := from.Col; col < from.Col+squareSide; col++ {
			inA, inB := holds(a, row, col), holds(b, row, col)
			if inA && inB {
				both++
			}
			if (meets && holds(meet, row, col)) != (inA && inB) {
				t.Errorf("Meet(%v, %v) = %v is wrong at %d, %d", a, b, meet, row, col)
			}
			if (inA || inB) && !holds(hull, row, col) {
				t.Errorf("Hull(%v, %v) = %v leaves out %d, %d", a, b, hull, row, col)
			}
			told := 0
			for _, w := range without {
				if holds(w, row, col) {
					told++
				}
			}
			if told != 0 != (inA && !inB) || told > 1 {
				t.Errorf("Without(%v, %v) = %v has %d, %d %d times", a, b, without, row, col, told)
			}
		}
	}
	if meets != (both > 0) {
		t.Errorf("Meet(%v, %v) = %v, with %d cells in both", a, b, meets, both)
	}
	if least := leastAround(a, b); hull != least {
		t.Errorf("Hull(%v, %v) = %v, want %v", a, b, hull, least)
	}
}

func leastAround(a, b impl.Area) impl.Area {
	refs := []impl.Ref{a.From, a.To, b.From, b.To}
	out := area(impl.MaxRow, impl.MaxCol, 1, 1)
	for _, r := range refs {
		out.From = cell(min(out.From.Row, r.Row), min(out.From.Col, r.Col))
		out.To = cell(max(out.To.Row, r.Row), max(out.To.Col, r.Col))
	}
	return out
}

func TestEveryPairOfSmallAreas(t *testing.T) {
	random := rand.New(rand.NewSource(3))
	for _, from := range []impl.Ref{cell(1, 1), cell(impl.MaxRow-squareSide+1, impl.MaxCol-squareSide+1)} {
		refs := squareRefs(from, random)
		var areas []impl.Area
		for _, r := range refs {
			for _, s := range refs {
				areas = append(areas, impl.Area{From: r, To: s})
			}
		}
		for _, a := range areas {
			for _, b := range areas {
				checkCells(t, a, b, from)
			}
		}
	}
}

// TestEverySmallNormal asks of each way of telling an area that its cells and its fixes are those it had.
func TestEverySmallNormal(t *testing.T) {
	for at := range 3 * 3 * 3 * 3 {
		for way := range 16 {
			a := impl.Area{
				From: fixed(at%3+1, at/3%3+1, fixings[way%4]),
				To:   fixed(at/9%3+1, at/27+1, fixings[way/4]),
			}
			want := a
			if a.To.Row < a.From.Row {
				want.From.Row, want.From.RowFix = a.To.Row, a.To.RowFix
				want.To.Row, want.To.RowFix = a.From.Row, a.From.RowFix
			}
			if a.To.Col < a.From.Col {
				want.From.Col, want.From.ColFix = a.To.Col, a.To.ColFix
				want.To.Col, want.To.ColFix = a.From.Col, a.From.ColFix
			}
			if got := impl.Normal(a); got != want {
				t.Errorf("Normal(%v) = %v, want %v", a, got, want)
			}
			if got := impl.Normal(want); got != want {
				t.Errorf("Normal(%v) = %v, want it as it was", want, got)
			}
		}
	}
}
