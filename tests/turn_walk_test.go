package tests

import (
	"math/rand"
	"slices"
	"strconv"
	"testing"

	"loop.example/g00025/impl"
)

// lastAlong: the last row or column, as the kind of a turn says.
func lastAlong(kind int) int {
	if kind == impl.TurnRows {
		return impl.MaxRow
	}
	return impl.MaxCol
}

// walkedLine puts a line of numbered rows or columns through a turn: where each one stands then, 0 for those that are gone.
func walkedLine(turn impl.Turn) []int {
	last := lastAlong(turn.Kind)
	var line []int
	for n := range last {
		line = append(line, n+1)
	}
	at := turn.At - 1
	if turn.Delete {
		line = slices.Delete(line, at, at+turn.Many)
	} else {
		line = slices.Insert(line, at, make([]int, turn.Many)...)
	}
	stands := make([]int, last+1)
	for i, n := range line[:min(len(line), last)] {
		stands[n] = i + 1
	}
	stands[0] = 0
	return stands
}

// walkedEnds goes from each end inwards as far as there is something left; 0, 0 where there is nothing.
func walkedEnds(stands []int, from, to int) (int, int) {
	if from > to {
		b, a := walkedEnds(stands, to, from)
		return a, b
	}
	for from <= to && stands[from] == 0 {
		from++
	}
	for to >= from && stands[to] == 0 {
		to--
	}
	if from > to {
		return 0, 0
	}
	return stands[from], stands[to]
}

func walkedRef(turn impl.Turn, stands []int, r impl.Ref) (impl.Ref, bool) {
	if turn.Kind == impl.TurnRows {
		r.Row = stands[r.Row]
	} else {
		r.Col = stands[r.Col]
	}
	if r.Row == 0 || r.Col == 0 {
		return impl.Ref{}, false
	}
	return r, true
}

func walkedArea(turn impl.Turn, stands []int, a impl.Area) (impl.Area, bool) {
	if turn.Kind == impl.TurnRows {
		a.From.Row, a.To.Row = walkedEnds(stands, a.From.Row, a.To.Row)
	} else {
		a.From.Col, a.To.Col = walkedEnds(stands, a.From.Col, a.To.Col)
	}
	if a.From.Row == 0 || a.From.Col == 0 {
		return impl.Area{}, false
	}
	return a, true
}

// eachTurn goes through all good turns that put in or delete so many rows or columns.
func eachTurn(rows, cols []int, visit func(turn impl.Turn)) {
	for _, kind := range []int{impl.TurnRows, impl.TurnCols} {
		howMany := map[int][]int{impl.TurnRows: rows, impl.TurnCols: cols}[kind]
		for at := range lastAlong(kind) {
			for _, many := range howMany {
				visit(impl.Turn{Kind: kind, At: at + 1, Many: many})
				if at+many <= lastAlong(kind) {
					visit(impl.Turn{Kind: kind, At: at + 1, Many: many, Delete: true})
				}
			}
		}
	}
}

func upTo(n int) []int {
	var out []int
	for i := range n {
		out = append(out, i+1)
	}
	return out
}

// along: a cell at a place of the line that a turn is of, in some line beside it and fixed in some way.
func along(kind, n, mix int) impl.Ref {
	fix := fixings[mix%4]
	if kind == impl.TurnRows {
		return fixed(n, mix%impl.MaxCol+1, fix)
	}
	return fixed(mix%impl.MaxRow+1, n, fix)
}

func TestEveryTurnOfEveryRef(t *testing.T) {
	eachTurn([]int{1, 2, 37, 99, 100}, upTo(100), func(turn impl.Turn) {
		if !impl.GoodTurn(turn) {
			t.Fatalf("GoodTurn(%v) = false", turn)
		}
		stands := walkedLine(turn)
		back := impl.BackTurn(turn)
		for n := range lastAlong(turn.Kind) {
			r := along(turn.Kind, n+1, n+turn.At)
			want, left := walkedRef(turn, stands, r)
			got, ok := impl.TurnRef(turn, r)
			if ok != left || got != want {
				t.Fatalf("TurnRef(%v, %v) = %v, %v, want %v, %v", turn, r, got, ok, want, left)
			}
			if !ok || back == (impl.Turn{}) {
				continue
			}
			if home, ok := impl.TurnRef(back, got); !ok || home != r {
				t.Fatalf("%v goes to %v by %v, and back to %v, %v", r, got, turn, home, ok)
			}
		}
	})
}

// nearEnds: the places of a line at which a turn has an edge, and those beside them.
func nearEnds(turn impl.Turn) []int {
	last := lastAlong(turn.Kind)
	var out []int
	for _, n := range []int{1, turn.At, turn.At + turn.Many, last - turn.Many + 1, last + 1} {
		for _, m := range []int{n - 2, n - 1, n, n + 1} {
			if m >= 1 && m <= last {
				out = append(out, m)
			}
		}
	}
	slices.Sort(out)
	return slices.Compact(out)
}

// checkArea holds a turn of an area against the walked one, and the way back where both ends are left.
func checkArea(t *testing.T, turn, back impl.Turn, stands []int, a impl.Area) {
	t.Helper()
	want, left := walkedArea(turn, stands, a)
	got, ok := impl.TurnArea(turn, a)
	if ok != left || got != want {
		t.Fatalf("TurnArea(%v, %v) = %v, %v, want %v, %v", turn, a, got, ok, want, left)
	}
	_, first := walkedRef(turn, stands, a.From)
	_, last := walkedRef(turn, stands, a.To)
	if !first || !last || back == (impl.Turn{}) {
		return
	}
	if home, ok := impl.TurnArea(back, got); !ok || home != a {
		t.Fatalf("%v goes to %v by %v, and back to %v, %v", a, got, turn, home, ok)
	}
}

func TestTurnsOfAreasAtTheirEdges(t *testing.T) {
	numbers := []int{1, 2, 3, 50, 99, 100}
	mix := 0
	eachTurn(numbers, numbers, func(turn impl.Turn) {
		stands := walkedLine(turn)
		back := impl.BackTurn(turn)
		ends := nearEnds(turn)
		for _, from := range ends {
			for _, to := range ends {
				mix++
				checkArea(t, turn, back, stands, impl.Area{From: along(turn.Kind, from, mix), To: along(turn.Kind, to, mix/4+from)})
			}
		}
	})
}

// TestCellsOfTurnedAreas asks cell by cell that an area has just the cells that it had and that are left, and new ones.
func TestCellsOfTurnedAreas(t *testing.T) {
	random := rand.New(rand.NewSource(5))
	for range 20000 {
		turn := randomTurn(random)
		stands := walkedLine(turn)
		from, to := random.Intn(len(stands)-1)+1, random.Intn(len(stands)-1)+1
		a := impl.Area{From: along(turn.Kind, from, random.Intn(1000)), To: along(turn.Kind, to, random.Intn(1000))}
		got, ok := impl.TurnArea(turn, a)
		held := 0
		for n := 1; n < len(stands); n++ {
			r := along(turn.Kind, n, 0)
			if turn.Kind == impl.TurnRows {
				r.Col = a.From.Col
			} else {
				r.Row = a.From.Row
			}
			there, left := walkedRef(turn, stands, r)
			if !left {
				continue
			}
			if holds(a, r.Row, r.Col) {
				held++
			}
			if (ok && holds(got, there.Row, there.Col)) != holds(a, r.Row, r.Col) {
				t.Fatalf("TurnArea(%v, %v) = %v, %v is wrong at %v, which was %v", turn, a, got, ok, there, r)
			}
		}
		if ok != (held > 0) {
			t.Fatalf("TurnArea(%v, %v) = %v, %v, with %d left", turn, a, got, ok, held)
		}
	}
}

func randomTurn(random *rand.Rand) impl.Turn {
	turn := impl.Turn{Kind: random.Intn(2) + 1, Many: random.Intn(100) + 1, Delete: random.Intn(2) == 0}
	last := lastAlong(turn.Kind)
	if turn.Delete {
		last -= turn.Many - 1
	}
	turn.At = random.Intn(last) + 1
	if random.Intn(3) == 0 {
		turn.At = last - random.Intn(min(last, 20))
	}
	return turn
}

// changed: the nodes with each ref and area as told; what is not ok is lost.
func changed(f nodes, ref func(impl.Ref) (impl.Ref, bool), block func(impl.Area) (impl.Area, bool)) nodes {
	out := nodes{}
	for _, n := range f {
		piece := one(n)
		switch n.Kind {
		case impl.NodRef:
			piece = wrong("#REF!")
			if r, ok := ref(n.From); ok {
				piece = refTo(r)
			}
		case impl.NodArea:
			piece = wrong("#REF!")
			if a, ok := block(impl.Area{From: n.From, To: n.To}); ok {
				piece = areaOf(a.From, a.To)
			}
		}
		out = append(out, piece...)
	}
	return out
}

// lostOnes: how many nodes are errors.
func lostOnes(f nodes) int {
	n := 0
	for _, node := range f {
		if node.Kind == impl.NodErr {
			n++
		}
	}
	return n
}

// nearRef: a ref that is often near the first or last cells.
func nearRef(random *rand.Rand) impl.Ref {
	r := randomRef(random)
	switch random.Intn(4) {
	case 0:
		r.Row, r.Col = random.Intn(6)+1, random.Intn(6)+1
	case 1:
		r.Row, r.Col = impl.MaxRow-random.Intn(6), impl.MaxCol-random.Intn(6)
	}
	return r
}

// manyRefs: a formula of several refs and areas, with other things between them.
func manyRefs(random *rand.Rand) nodes {
	f := randomTree(random, random.Intn(4))
	for range random.Intn(6) {
		other := refTo(nearRef(random))
		if random.Intn(2) == 0 {
			other = areaOf(nearRef(random), nearRef(random))
		}
		switch random.Intn(3) {
		case 0:
			f = op("+", f, other)
		case 1:
			f = op("*", minus(other), f)
		case 2:
			f = call("F", f, nothing(), percent(other))
		}
	}
	return f
}

// eachRandom does something with a fresh source of chance, so many times in each of some parallel runs.
func eachRandom(t *testing.T, times int, do func(t *testing.T, random *rand.Rand)) {
	for seed := range 8 {
		t.Run(strconv.Itoa(seed), func(t *testing.T) {
			t.Parallel()
			random := rand.New(rand.NewSource(int64(seed)))
			for range times {
				do(t, random)
			}
		})
	}
}

// wantSame asks that a formula became another one, and that it is one.
func wantSame(t *testing.T, what any, f, got, want nodes) {
	t.Helper()
	if !slices.Equal(got, want) {
		t.Fatalf("%v makes %v of %v, want %v", what, got, f, want)
	}
	if !impl.GoodFormula(got) {
		t.Fatalf("%v makes no good formula of %v", what, f)
	}
}

func TestRandomTurns(t *testing.T) {
	eachRandom(t, 4000, func(t *testing.T, random *rand.Rand) {
		f := manyRefs(random)
		if !impl.GoodFormula(f) {
			return
		}
		turn := randomTurn(random)
		stands := walkedLine(turn)
		whole := true
		want := changed(f, func(r impl.Ref) (impl.Ref, bool) {
			there, ok := walkedRef(turn, stands, r)
			whole = whole && ok
			return there, ok
		}, func(a impl.Area) (impl.Area, bool) {
			_, first := walkedRef(turn, stands, a.From)
			_, last := walkedRef(turn, stands, a.To)
			whole = whole && first && last
			return walkedArea(turn, stands, a)
		})
		got := impl.TurnFormula(turn, f)
		wantSame(t, turn, f, got, want)
		if back := impl.BackTurn(turn); whole && back != (impl.Turn{}) {
			wantSame(t, back, got, impl.TurnFormula(back, got), f)
		}
	})
}

func TestRandomFills(t *testing.T) {
	eachRandom(t, 4000, func(t *testing.T, random *rand.Rand) {
		f := manyRefs(random)
		if !impl.GoodFormula(f) {
			return
		}
		rows, cols := random.Intn(2001)-1000, random.Intn(401)-200
		if random.Intn(2) == 0 {
			rows, cols = random.Intn(11)-5, random.Intn(11)-5
		}
		fill := func(r impl.Ref) (impl.Ref, bool) {
			r = fixed(r.Row+map[bool]int{false: rows}[r.RowFix], r.Col+map[bool]int{false: cols}[r.ColFix], r)
			return r, r.Row >= 1 && r.Row <= 1000 && r.Col >= 1 && r.Col <= 200
		}
		want := changed(f, fill, func(a impl.Area) (impl.Area, bool) {
			from, ok1 := fill(a.From)
			to, ok2 := fill(a.To)
			return impl.Area{From: from, To: to}, ok1 && ok2
		})
		got := impl.Filled(f, rows, cols)
		wantSame(t, [2]int{rows, cols}, f, got, want)
		if lostOnes(got) == lostOnes(f) {
			wantSame(t, [2]int{-rows, -cols}, got, impl.Filled(got, -rows, -cols), f)
		}
	})
}

// TestTextsReadElsewhere holds fills against the text in the second notation, told at one place and read at another.
func TestTextsReadElsewhere(t *testing.T) {
	eachRandom(t, 4000, func(t *testing.T, random *rand.Rand) {
		f := manyRefs(random)
		home, there := nearRef(random), nearRef(random)
		if random.Intn(2) == 0 {
			there = cell(min(home.Row+random.Intn(4), impl.MaxRow), max(home.Col-random.Intn(4), 1))
		}
		checkReadElsewhere(t, f, home, there)
	})
}

func checkReadElsewhere(t *testing.T, f nodes, home, there impl.Ref) {
	t.Helper()
	text := impl.FormulaTextBy(f, home.Row, home.Col)
	if text == "" {
		return
	}
	want := impl.Filled(f, there.Row-home.Row, there.Col-home.Col)
	got := impl.ReadFormulaBy(text, there.Row, there.Col)
	if lostOnes(want) > lostOnes(f) {
		if got.Err != 2 {
			t.Fatalf("%q of %v is read at %v as %v, but is filled as %v", text, home, there, got, want)
		}
		return
	}
	if got.Err != 0 || !slices.Equal(got.Nodes, want) {
		t.Fatalf("%q of %v is read at %v as %v, but is filled as %v", text, home, there, got, want)
	}
	if again := impl.FormulaTextBy(want, there.Row, there.Col); again != text {
		t.Fatalf("%q of %v is %q when it is filled to %v", text, home, again, there)
	}
}

// TestEveryFixReadElsewhere: the same for each way of fixing both ends, at and beyond the first and last places.
func TestEveryFixReadElsewhere(t *testing.T) {
	places := []impl.Ref{cell(1, 1), cell(2, 3), cell(500, 100), cell(999, 199), cell(impl.MaxRow, impl.MaxCol)}
	for _, home := range places {
		for _, there := range places {
			for _, from := range places {
				for _, to := range places {
					for way := range 16 {
						a, b := fixed(from.Row, from.Col, fixings[way%4]), fixed(to.Row, to.Col, fixings[way/4])
						checkReadElsewhere(t, refTo(a), home, there)
						checkReadElsewhere(t, areaOf(a, b), home, there)
						checkReadElsewhere(t, op("-", refTo(b), areaOf(a, b)), home, there)
					}
				}
			}
		}
	}
}

// carried: where each cell of a move goes, told cell by cell; none where one would come to no good place.
func carried(m impl.Move) map[impl.Ref]impl.Ref {
	top, left := min(m.From.From.Row, m.From.To.Row), min(m.From.From.Col, m.From.To.Col)
	out := map[impl.Ref]impl.Ref{}
	for row := top; row <= max(m.From.From.Row, m.From.To.Row); row++ {
		for col := left; col <= max(m.From.From.Col, m.From.To.Col); col++ {
			goal := cell(m.Row+row-top, m.Col+col-left)
			if !impl.GoodRef(goal) {
				return nil
			}
			out[cell(row, col)] = goal
		}
	}
	return out
}

// carriedArea: an area of which all cells are carried goes as a whole.
func carriedArea(way map[impl.Ref]impl.Ref, a impl.Area) impl.Area {
	for row := min(a.From.Row, a.To.Row); row <= max(a.From.Row, a.To.Row); row++ {
		for col := min(a.From.Col, a.To.Col); col <= max(a.From.Col, a.To.Col); col++ {
			if _, in := way[cell(row, col)]; !in {
				return a
			}
		}
	}
	from, to := way[cell(a.From.Row, a.From.Col)], way[cell(a.To.Row, a.To.Col)]
	return impl.Area{From: fixed(from.Row, from.Col, a.From), To: fixed(to.Row, to.Col, a.To)}
}

// backMove: the move that takes all back.
func backMove(m impl.Move) impl.Move {
	top, left := min(m.From.From.Row, m.From.To.Row), min(m.From.From.Col, m.From.To.Col)
	high, wide := max(m.From.From.Row, m.From.To.Row)-top, max(m.From.From.Col, m.From.To.Col)-left
	return impl.Move{From: area(m.Row, m.Col, m.Row+high, m.Col+wide), Row: top, Col: left}
}

// checkMoved holds a move of a ref and an area against the walked one, and the way back where nothing stood at the goal.
func checkMoved(t *testing.T, m impl.Move, way map[impl.Ref]impl.Ref, a impl.Area) {
	t.Helper()
	want := a.From
	goal, in := way[cell(a.From.Row, a.From.Col)]
	if in {
		want = fixed(goal.Row, goal.Col, a.From)
	}
	there := carriedArea(way, a)
	got := impl.MoveRef(m, a.From)
	f := op("+", refTo(a.From), areaOf(a.From, a.To))
	g := impl.MoveFormula(m, f)
	if got != want || !slices.Equal(g, op("+", refTo(want), areaOf(there.From, there.To))) {
		t.Fatalf("%v: %v goes to %v, want %v, and %v to %v, want %v", m, a.From, got, want, a, g, there)
	}
	if way == nil {
		return
	}
	back := backMove(m)
	// What stood at the goal and did not go is lost: a ref to it would come back with the cells that are there now.
	if in || !holds(back.From, a.From.Row, a.From.Col) {
		if home := impl.MoveRef(back, got); home != a.From {
			t.Fatalf("%v: %v goes to %v, and back to %v", m, a.From, got, home)
		}
	}
	whole := there != a || !holds(back.From, a.From.Row, a.From.Col) || !holds(back.From, a.To.Row, a.To.Col)
	if h := impl.MoveFormula(back, areaOf(there.From, there.To)); whole && !slices.Equal(h, areaOf(a.From, a.To)) {
		t.Fatalf("%v: %v goes to %v, and back to %v", m, a, there, h)
	}
}

// TestEverySmallMove moves each area of a small square, told each way round, to places near and far.
func TestEverySmallMove(t *testing.T) {
	random := rand.New(rand.NewSource(7))
	for _, from := range []impl.Ref{cell(1, 1), cell(impl.MaxRow-squareSide+1, impl.MaxCol-squareSide+1)} {
		refs := squareRefs(from, random)
		goals := append(slices.Clone(refs), cell(1, 1), cell(500, 100), cell(impl.MaxRow-1, impl.MaxCol-1), cell(impl.MaxRow, 1), cell(1, impl.MaxCol), cell(impl.MaxRow+1, 1), cell(0, 5), cell(5, 0))
		for _, r := range refs {
			for _, s := range refs {
				for _, goal := range goals {
					m := impl.Move{From: impl.Area{From: r, To: s}, Row: goal.Row, Col: goal.Col}
					way := carried(m)
					for range 16 {
						checkMoved(t, m, way, impl.Area{From: refs[random.Intn(16)], To: refs[random.Intn(16)]})
					}
					checkMoved(t, m, way, m.From)
				}
			}
		}
	}
}

func TestRandomMoves(t *testing.T) {
	eachRandom(t, 1500, func(t *testing.T, random *rand.Rand) {
		f := manyRefs(random)
		if !impl.GoodFormula(f) {
			return
		}
		// Near a corner, so that some of the formula's refs are carried, and some of its areas wholly.
		at := cell(random.Intn(4)+1, random.Intn(4)+1)
		m := impl.Move{From: impl.Area{From: at, To: cell(random.Intn(20)+1, random.Intn(20)+1)}, Row: random.Intn(impl.MaxRow) + 1, Col: random.Intn(impl.MaxCol) + 1}
		way := carried(m)
		want := changed(f, func(r impl.Ref) (impl.Ref, bool) {
			if goal, in := way[cell(r.Row, r.Col)]; in {
				return fixed(goal.Row, goal.Col, r), true
			}
			return r, true
		}, func(a impl.Area) (impl.Area, bool) { return carriedArea(way, a), true })
		wantSame(t, m, f, impl.MoveFormula(m, f), want)
	})
}

// TestAnyNumbers asks that all functions answer at any numbers, and the same when they are asked again.
func TestAnyNumbers(t *testing.T) {
	eachRandom(t, 20000, func(t *testing.T, random *rand.Rand) {
		number := func() int {
			switch random.Intn(6) {
			case 0:
				return int(random.Uint64())
			case 1:
				return farNumbers[random.Intn(len(farNumbers))]
			case 2:
				return impl.MaxRow - 2 + random.Intn(4)
			case 3:
				return impl.MaxCol - 2 + random.Intn(4)
			}
			return random.Intn(5) - 1
		}
		ref := func() impl.Ref { return fixed(number(), number(), fixings[random.Intn(4)]) }
		turn := impl.Turn{Kind: random.Intn(4), At: number(), Many: number(), Delete: random.Intn(2) == 0}
		a := impl.Area{From: ref(), To: ref()}
		m := impl.Move{From: impl.Area{From: ref(), To: ref()}, Row: number(), Col: number()}
		f := op("+", refTo(a.From), areaOf(a.From, a.To))
		checkAnyNumbers(t, turn, m, a, f, number(), number())
	})
}

func checkAnyNumbers(t *testing.T, turn impl.Turn, m impl.Move, a impl.Area, f nodes, rows, cols int) {
	t.Helper()
	r, okR := impl.TurnRef(turn, a.From)
	b, okA := impl.TurnArea(turn, a)
	g, back := impl.TurnFormula(turn, f), impl.BackTurn(turn)
	good := impl.GoodTurn(turn)
	if okR && !impl.GoodRef(r) || !okR && r != (impl.Ref{}) || okA && !impl.GoodArea(b) || !okA && b != (impl.Area{}) {
		t.Fatalf("%v of %v: %v, %v, %v, %v", turn, a, r, okR, b, okA)
	}
	if (len(g) > 0) != (good && impl.GoodFormula(f)) || len(g) > 0 && !impl.GoodFormula(g) {
		t.Fatalf("TurnFormula(%v, %v) = %v", turn, f, g)
	}
	if back != (impl.Turn{}) && (!good || !impl.GoodTurn(back) || impl.BackTurn(back) != turn) {
		t.Fatalf("BackTurn(%v) = %v", turn, back)
	}
	h := impl.Filled(f, rows, cols)
	if fills := rows >= -1000 && rows <= 1000 && cols >= -1000 && cols <= 1000; (len(h) > 0) != (fills && impl.GoodFormula(f)) || len(h) > 0 && !impl.GoodFormula(h) {
		t.Fatalf("Filled(%v, %d, %d) = %v", f, rows, cols, h)
	}
	there, k := impl.MoveRef(m, a.From), impl.MoveFormula(m, f)
	if impl.GoodRef(there) != impl.GoodRef(a.From) || impl.GoodFormula(k) != impl.GoodFormula(f) {
		t.Fatalf("%v of %v: %v, %v", m, a, there, k)
	}
}
