package tests

import (
	"cmp"
	"math/big"
	"math/rand"
	"regexp"
	"slices"
	"strings"
	"testing"

	"loop.example/g00025/impl"
)

// standing is where a value stands among others: by its place first, then by its size, then by its letters.
type standing struct {
	place   int
	size    *big.Rat
	letters string
}

// standings: where two values stand that are good and no errors; an empty one stands by the other one's kind.
func standings(a, b impl.Value) (standing, standing) {
	return standingOf(a, b.Kind), standingOf(b, a.Kind)
}

func standingOf(v impl.Value, beside int) standing {
	s := standing{size: new(big.Rat)}
	kind := v.Kind
	if kind == impl.ValEmpty {
		kind = beside
	}
	switch {
	case kind == impl.ValNum:
		s.place, s.size = 1, ratOf(v.Num)
	case kind == impl.ValText:
		s.place, s.letters = 2, strings.ToUpper(v.Text)
	case v.Text == "TRUE" && kind == impl.ValBool:
		s.place = 4
	case kind == impl.ValBool:
		s.place = 3
	}
	return s
}

func walkedOrder(a, b impl.Value) int {
	s, r := standings(a, b)
	return cmp.Or(cmp.Compare(s.place, r.place), s.size.Cmp(r.size), cmp.Compare(s.letters, r.letters))
}

// walkedNumber: the number that a good value is taken for; false where it is none.
func walkedNumber(v impl.Value) (impl.Dec, bool) {
	switch v.Kind {
	case impl.ValText:
		r := wantRead(blanksAround.ReplaceAllString(v.Text, "$1"))
		return r.Dec, r.Ok
	case impl.ValBool:
		return impl.Dec{Digits: len("FALSE") - len(v.Text)}, true
	}
	return v.Num, true
}

var blanksAround = regexp.MustCompile(`^ *(.*?) *$`)

// walkedText: a good value that is no error as a text.
func walkedText(v impl.Value) string {
	if v.Kind == impl.ValNum {
		return impl.DecText(v.Num)
	}
	return v.Text
}

// walkedApply: what comes of good values, by exact fractions.
func walkedApply(sign string, a, b impl.Value) impl.Value {
	switch {
	case a.Kind == impl.ValErr:
		return a
	case b.Kind == impl.ValErr:
		return b
	case sign == "&":
		both := walkedText(a) + walkedText(b)
		if len(both) > 1000 {
			return notThis
		}
		return wordsVal(both)
	case strings.ContainsAny(sign, "<=>"):
		// The sign has the marks of all outcomes for which it holds.
		if strings.Contains(sign, string("<=>"[walkedOrder(a, b)+1])) {
			return yes
		}
		return no
	}
	x, inX := walkedNumber(a)
	y, inY := walkedNumber(b)
	if !inX || !inY {
		return notThis
	}
	return walkedReckoned(sign, x, y)
}

func walkedReckoned(sign string, x, y impl.Dec) impl.Value {
	var r impl.DecRes
	switch sign {
	case "+":
		r = wantPut(new(big.Rat).Add(ratOf(x), ratOf(y)))
	case "-":
		r = wantPut(new(big.Rat).Sub(ratOf(x), ratOf(y)))
	case "*":
		r = wantMul(x, y)
	case "/":
		if y.Digits == 0 {
			return byNought
		}
		r = wantDiv(x, y)
	case "^":
		if x.Digits == 0 && y.Neg {
			return byNought
		}
		r = walkedPower(x, ratOf(y))
	}
	if !r.Ok {
		return noNumber
	}
	return impl.Value{Kind: impl.ValNum, Num: r.Dec}
}

func walkedPower(x impl.Dec, y *big.Rat) impl.DecRes {
	switch {
	case x.Digits == 0 && y.Sign() == 0:
		return impl.DecRes{}
	case y.IsInt() && new(big.Rat).Abs(y).Cmp(big.NewRat(1000, 1)) <= 0:
		return wantPow(x, int(y.Num().Int64()))
	case y.Cmp(big.NewRat(1, 2)) == 0 && !x.Neg:
		return wantRoot(x)
	}
	return impl.DecRes{}
}

// randomGood is a good value; small numbers and short texts come often, so that some are the same.
func randomGood(random *rand.Rand) impl.Value {
	switch random.Intn(12) {
	case 0:
		return empty
	case 1:
		return []impl.Value{yes, no}[random.Intn(2)]
	case 2:
		return errVal(errorTexts[random.Intn(len(errorTexts))])
	case 3:
		all := goodValues()
		return all[random.Intn(len(all))]
	case 4, 5:
		return impl.Value{Kind: impl.ValNum, Num: randomDec(random, 1+random.Intn(300))}
	case 6, 7, 8:
		return impl.Value{Kind: impl.ValNum, Num: impl.DecOf(random.Intn(41)-20, -random.Intn(2)).Dec}
	case 9:
		return wordsVal(strings.Repeat(" ", random.Intn(3)) + impl.DecText(randomDec(random, 20)) + strings.Repeat(" ", random.Intn(3)))
	}
	text := make([]byte, random.Intn(4))
	for i := range text {
		text[i] = "aAbBzZ019 -.~'@[_`{"[random.Intn(19)]
	}
	return wordsVal(string(text))
}

func isBad(v impl.Value) bool { return v.Kind == impl.ValErr }

// TestTheOrderIsOne puts values that are not empty in order and asks that each pair stands so.
func TestTheOrderIsOne(t *testing.T) {
	eachRandom(t, 5, func(t *testing.T, random *rand.Rand) {
		var list []impl.Value
		for len(list) < 200 {
			if v := randomGood(random); !isBad(v) && v != empty {
				list = append(list, v)
			}
		}
		slices.SortFunc(list, impl.Compare)
		for i, a := range list {
			for j, b := range list[i:] {
				way := impl.Compare(a, b)
				if way != 0 && way != -1 || impl.Compare(b, a) != -way || way != walkedOrder(a, b) {
					t.Fatalf("%v stands ahead of %v, and Compare is %d and %d", a, b, way, impl.Compare(b, a))
				}
				// Those between two that are the same are the same, too.
				if way == 0 && j > 0 && impl.Compare(a, list[i+j-1]) != 0 {
					t.Fatalf("%v is the same as %v, but not as %v between them", a, b, list[i+j-1])
				}
			}
		}
	})
}

// TestRandomPairs holds all operators, and Compare, against fractions.
func TestRandomPairs(t *testing.T) {
	eachRandom(t, 1000, func(t *testing.T, random *rand.Rand) {
		a, b := randomGood(random), randomGood(random)
		want := 2
		if !isBad(a) && !isBad(b) {
			want = walkedOrder(a, b)
		}
		if got := impl.Compare(a, b); got != want {
			t.Errorf("Compare(%v, %v) = %d, want %d", a, b, got, want)
		}
		for _, sign := range operators {
			got := impl.Apply(sign, a, b)
			wantValue(t, sign, []impl.Value{a, b}, got, walkedApply(sign, a, b))
			if !impl.GoodValue(got) {
				t.Errorf("%v %s %v is no good value: %v", a, sign, b, got)
			}
		}
	})
}

func TestEveryPairOfEdges(t *testing.T) {
	all := goodValues()
	for _, a := range all {
		for _, b := range all {
			for _, sign := range operators {
				wantApplied(t, sign, a, b, walkedApply(sign, a, b))
			}
		}
	}
}

func TestEveryWholePower(t *testing.T) {
	for _, x := range []string{"2", "-1.01", "0.5", "0", "1E300", "-1E-300"} {
		for n := -1003; n <= 1003; n++ {
			a, b := numVal(x), impl.Value{Kind: impl.ValNum, Num: impl.DecOf(n, 0).Dec}
			wantApplied(t, "^", a, b, walkedApply("^", a, b))
		}
	}
}

func randomGrid(random *rand.Rand, rows, cols int) impl.Grid {
	g := impl.Grid{Rows: rows, Cols: cols}
	for range rows * cols {
		g.Cells = append(g.Cells, randomGood(random))
	}
	return g
}

// stretched lays a grid out over so many rows and columns: nil where it has no cell.
func stretched(g impl.Grid, rows, cols int) [][]*impl.Value {
	var lines [][]*impl.Value
	for at := range g.Rows {
		line := make([]*impl.Value, cols)
		for col := range cols {
			switch {
			case col < g.Cols:
				line[col] = &g.Cells[at*g.Cols+col]
			case g.Cols == 1:
				line[col] = line[0]
			}
		}
		lines = append(lines, line)
	}
	for len(lines) < rows {
		if g.Rows == 1 {
			lines = append(lines, lines[0])
			continue
		}
		lines = append(lines, make([]*impl.Value, cols))
	}
	return lines
}

// checkGrids holds an operator on grids against the one on their cells.
func checkGrids(t *testing.T, sign string, a, b impl.Grid) {
	t.Helper()
	wasA, wasB := slices.Clone(a.Cells), slices.Clone(b.Cells)
	rows, cols := max(a.Rows, b.Rows), max(a.Cols, b.Cols)
	g := impl.ApplyGrid(sign, a, b)
	if g.Rows != rows || g.Cols != cols || len(g.Cells) != rows*cols || !impl.GoodGrid(g) {
		t.Fatalf("%d times %d %s %d times %d is a grid of %d times %d with %d cells", a.Rows, a.Cols, sign, b.Rows, b.Cols, g.Rows, g.Cols, len(g.Cells))
	}
	left, right := stretched(a, rows, cols), stretched(b, rows, cols)
	for i, got := range g.Cells {
		x, y := left[i/cols][i%cols], right[i/cols][i%cols]
		want := noCell
		if x != nil && y != nil {
			want = impl.Apply(sign, *x, *y)
		}
		if got != want {
			t.Errorf("%v %s %v has %v at %d, want %v", a, sign, b, got, i, want)
		}
	}
	if !slices.Equal(a.Cells, wasA) || !slices.Equal(b.Cells, wasB) {
		t.Errorf("%s wrote into its arguments", sign)
	}
}

// TestGridsOfAllSmallSides goes through all sides up to four, each beside each.
func TestGridsOfAllSmallSides(t *testing.T) {
	eachRandom(t, 1, func(t *testing.T, random *rand.Rand) {
		for sides := range 4 * 4 * 4 * 4 {
			a := randomGrid(random, 1+sides%4, 1+sides/4%4)
			b := randomGrid(random, 1+sides/16%4, 1+sides/64)
			for _, sign := range operators {
				checkGrids(t, sign, a, b)
			}
		}
	})
}

func TestGreatGrids(t *testing.T) {
	random := rand.New(rand.NewSource(1))
	for _, sides := range [][4]int{{2000, 1, 1, 1}, {1, 2000, 1, 7}, {40, 50, 40, 50}, {40, 1, 1, 50}, {39, 50, 40, 2}, {1000, 2, 999, 1}} {
		a, b := randomGrid(random, sides[0], sides[1]), randomGrid(random, sides[2], sides[3])
		for _, sign := range operators {
			checkGrids(t, sign, a, b)
			checkGrids(t, sign, b, a)
		}
	}
}

var truthForm = regexp.MustCompile(`^(?i:true|false)$`)

// walkedTyped: what a typed text is, by its form alone.
func walkedTyped(text string) impl.Value {
	number := wantRead(text)
	switch {
	case text == "":
		return empty
	case number.Ok:
		return impl.Value{Kind: impl.ValNum, Num: number.Dec}
	case truthForm.MatchString(text):
		return truthVal(strings.ToUpper(text))
	case slices.Contains(errorTexts, text):
		return errVal(text)
	}
	if text[0] == '\'' {
		text = text[1:]
	}
	if len(text) > 1000 || strings.ContainsFunc(text, func(r rune) bool { return r < ' ' || r > '~' }) {
		return notThis
	}
	return wordsVal(text)
}

// checkTyped holds a typed text, and the text itself as a value, against their forms.
func checkTyped(t *testing.T, text string) {
	t.Helper()
	v := impl.TypedValue(text)
	wantValue(t, "TypedValue", text, v, walkedTyped(text))
	if !impl.GoodValue(v) {
		t.Errorf("%q is typed as %v", text, v)
	}
	w := wordsVal(text)
	if !impl.GoodValue(w) {
		return
	}
	number, truth := notThis, notThis
	if d, ok := walkedNumber(w); ok {
		number = impl.Value{Kind: impl.ValNum, Num: d}
	}
	if truthForm.MatchString(text) {
		truth = truthVal(strings.ToUpper(text))
	}
	checkTurnings(t, w, number, w, truth)
}

func TestShortTypedTexts(t *testing.T) {
	eachText("10-.Ee+' #t", 5, func(text string) { checkTyped(t, text) })
}

func TestHurtTypedTexts(t *testing.T) {
	for _, text := range append([]string{"TRUE", "false", "-12.5E+3", "'abc", "'TRUE", " 12 ", "007", "''"}, errorTexts...) {
		hurt(text, func(text string) { checkTyped(t, text) })
	}
}

// anyValue is a value of any fields, good or not.
func anyValue(random *rand.Rand) impl.Value {
	v := impl.Value{Kind: random.Intn(8) - 1}
	if random.Intn(10) == 0 {
		v.Kind = farNumbers[random.Intn(len(farNumbers))]
	}
	switch random.Intn(4) {
	case 0:
		v.Num = impl.Dec{Neg: random.Intn(2) == 0, Digits: int(random.Uint64()), Exp: int(random.Uint64())}
	case 1:
		v.Num = badDecs()[random.Intn(len(badDecs()))]
	case 2:
		v.Num = randomDec(random, 400)
	}
	switch random.Intn(4) {
	case 0:
		text := make([]byte, random.Intn(1100))
		random.Read(text)
		v.Text = string(text)
	case 1:
		v.Text = letters(990 + random.Intn(20))
	case 2:
		v.Text = walkedText(randomGood(random))
	}
	return v
}

// anyGrid is a grid of any sides; some are good.
func anyGrid(random *rand.Rand) impl.Grid {
	g := impl.Grid{Rows: random.Intn(5) - 1, Cols: random.Intn(5) - 1}
	if random.Intn(4) == 0 {
		g.Rows = farNumbers[random.Intn(len(farNumbers))]
	}
	if random.Intn(4) == 0 {
		g.Cols = farNumbers[random.Intn(len(farNumbers))]
	}
	cells := random.Intn(10)
	if fits := g.Rows * g.Cols; random.Intn(2) == 0 && fits >= 0 && fits <= 20 {
		cells = fits
	}
	for range cells {
		v := randomGood(random)
		if random.Intn(10) == 0 {
			v = anyValue(random)
		}
		g.Cells = append(g.Cells, v)
	}
	return g
}

// goodBySight: whether a value is good, told kind by kind.
func goodBySight(v impl.Value) bool {
	switch v {
	case empty, yes, no:
		return true
	case wordsVal(v.Text):
		return walkedTyped("'"+v.Text) == v
	case errVal(v.Text):
		return slices.Contains(errorTexts, v.Text)
	case impl.Value{Kind: impl.ValNum, Num: v.Num}:
		return impl.GoodDec(v.Num)
	}
	return false
}

func TestAnyValues(t *testing.T) {
	eachRandom(t, 2000, func(t *testing.T, random *rand.Rand) {
		a, b := anyValue(random), anyValue(random)
		for _, v := range []impl.Value{a, b} {
			// What is taken for good without being so may be too great for fractions.
			if impl.GoodValue(v) != goodBySight(v) {
				t.Fatalf("GoodValue(%v) = %v", v, impl.GoodValue(v))
			}
		}
		both := impl.GoodValue(a) && impl.GoodValue(b)
		if got := impl.Compare(a, b); got < -1 || got > 2 || !both && got != 2 {
			t.Errorf("Compare(%v, %v) = %d", a, b, got)
		}
		answers := []impl.Value{impl.NumberOf(a), impl.TextOf(a), impl.BoolOf(a), impl.TypedValue(a.Text), impl.Apply(a.Text, a, b)}
		for _, sign := range operators {
			v := impl.Apply(sign, a, b)
			answers = append(answers, v)
			if both {
				wantValue(t, sign, []impl.Value{a, b}, v, walkedApply(sign, a, b))
				continue
			}
			wantValue(t, sign, []impl.Value{a, b}, v, notThis)
		}
		for i, v := range answers {
			if !goodBySight(v) {
				t.Errorf("answer %d of %v and %v is %v", i, a, b, v)
			}
		}
		if got := impl.ShowValue(a); !impl.GoodValue(a) && got != "" {
			t.Errorf("ShowValue(%v) = %q", a, got)
		}
	})
}

func TestAnyGrids(t *testing.T) {
	eachRandom(t, 3000, func(t *testing.T, random *rand.Rand) {
		a, b := anyGrid(random), anyGrid(random)
		sign := operators[random.Intn(len(operators))]
		if impl.GoodGrid(a) && impl.GoodGrid(b) {
			checkGrids(t, sign, a, b)
			return
		}
		wasA, wasB := slices.Clone(a.Cells), slices.Clone(b.Cells)
		wantNoGrid(t, impl.ApplyGrid(sign, a, b))
		if !slices.Equal(a.Cells, wasA) || !slices.Equal(b.Cells, wasB) {
			t.Errorf("%s wrote into its arguments", sign)
		}
	})
}
