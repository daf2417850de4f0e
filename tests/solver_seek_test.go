package tests

import (
	"math/big"
	"math/rand"
	"strings"
	"testing"

	"loop.example/g00025/impl"
)

func placeIn(text string) impl.Ref {
	r, ok := impl.ReadRef(text)
	if !ok {
		panic(text + " is no address")
	}
	return r
}

// sought tells what is found, or `no`.
func sought(d impl.Dec, ok bool) string {
	switch {
	case ok:
		return impl.DecText(d)
	case d != impl.Dec{}:
		return "no, but with " + impl.DecText(d)
	}
	return "no"
}

func wantSought(t *testing.T, s impl.Sheet, changing impl.Change, row, col int, want impl.Dec, steps int, answer string) {
	t.Helper()
	was := cloned(s)
	if got := sought(impl.SeekGoal(s, changing, row, col, want, steps)); got != answer {
		t.Errorf("%s\n with %v changing, %s wanted at %d, %d in %d steps: %s, want %s", toldSheet(s), changing, impl.DecText(want), row, col, steps, got, answer)
	}
	if !sameSheets(s, was) {
		t.Errorf("%s was written into", toldSheet(was))
	}
}

// seekCase has the fewest steps in which the answer is found; 0 where there is none in any.
type seekCase struct {
	sheet, changing, asked, want, answer string
	need                                 int
}

var noSteps = append([]int{0, 101, 102, 256 + 10, 1<<32 + 5}, farNumbers...)

func checkSought(t *testing.T, cases []seekCase) {
	t.Helper()
	for _, c := range cases {
		s, from, at := sheetOf(c.sheet), placeIn(c.changing), placeIn(c.asked)
		want := decOf(t, c.want)
		for _, text := range []string{"", "7", "=1/0", "\x00", letters(5000)} {
			changing := impl.Change{Row: from.Row, Col: from.Col, Text: text}
			for _, steps := range []int{1, 2, 3, 4, 5, 10, 50, 99, 100, c.need, c.need - 1} {
				answer := "no"
				if c.need > 0 && steps >= c.need {
					answer = c.answer
				}
				wantSought(t, s, changing, at.Row, at.Col, want, steps, answer)
			}
			for _, steps := range noSteps {
				wantSought(t, s, changing, at.Row, at.Col, want, steps, "no")
			}
		}
	}
}

func TestSeekGoal(t *testing.T) {
	line := "B1: =A1*3+1"
	checkSought(t, []seekCase{
		{line, "A1", "B1", "10", "3", 2}, {line, "A1", "B1", "-5", "-2", 2}, {line, "A1", "B1", "2.5", "0.5", 2}, {line, "A1", "B1", "1E6", "333333", 2}, {"B1: =A1/4", "A1", "B1", "25", "100", 2}, {"B1: =5-A1", "A1", "B1", "7", "-2", 2},
		// f is 0 of the first number: that is not looked at, but comes again as the second one; and of the second one.
		{line, "A1", "B1", "1", "0", 2}, {line, "A1", "B1", "4", "1", 1}, {"B1: 5", "A1", "B1", "5", "1", 1}, {"B1: =A1*A1-A1", "A1", "B1", "0", "1", 1},
		// The changing cell has a text of its own, a formula, or one that needs itself.
		{line + " | A1: 99", "A1", "B1", "10", "3", 2}, {line + " | A1: x", "A1", "B1", "10", "3", 2}, {line + " | A1: =B1", "A1", "B1", "10", "3", 2}, {line + " | A1: =1/0", "A1", "B1", "10", "3", 2}, {"B1: =B1+A1", "A1", "B1", "10", "no", 0}, {"B1: =B1+A1", "B1", "B1", "10", "10", 2},
		// The asked cell is the changing one.
		{"A1: 5", "A1", "A1", "7", "7", 2}, {"C3: x", "A1", "A1", "1", "1", 1}, {"C3: x", "A1", "A1", "0", "0", 2}, {"C3: x", "C3", "C3", "-2.5", "-2.5", 2}, {"C3: x", "GR1000", "GR1000", "9", "9", 2},
		// By way of other cells, names and what is laid down.
		{"B1: =A1+1 | C1: =B1*2 | D1: =SUM(A1:C1)", "A1", "D1", "11", "2", 2}, {"B1: =twice(A1)+K | TWICE: =LAMBDA(x,x*2) | K: =A1", "A1", "B1", "9", "3", 2}, {"B1: =SEQUENCE(2)*A1", "A1", "B2", "6", "3", 2}, {"B1: =SEQUENCE(1,3) | E1: =IFERROR(B1,A1)", "A1", "E1", "5", "no", 0}, {"B1: =SEQUENCE(1,3) | E1: =IFERROR(B1,C1)", "C1", "E1", "5", "5", 2}, {"B1: =SEQUENCE(1,3)*2", "D1", "C1", "4", "no", 0}, {"B1: =IF(ISBLANK(A1),7,A1)", "A1", "B1", "3", "3", 2},
		// The value is no number: of the first one, of the second one, or after some steps.
		{"B1: x", "A1", "B1", "1", "no", 0}, {"B1: '5", "A1", "B1", "5", "no", 0}, {"B1: TRUE", "A1", "B1", "1", "no", 0}, {"B1: #N/A", "A1", "B1", "1", "no", 0}, {"B1: =1/A1", "A1", "B1", "0.5", "no", 0}, {"B1: =1/A1", "A1", "B1", "1", "no", 0}, {"B1: =1/(A1-1)", "A1", "B1", "-1", "no", 0}, {"B1: =IF(A1=1,\"x\",A1)", "A1", "B1", "0", "no", 0}, {"B1: =IF(A1>1,\"x\",A1)", "A1", "B1", "3", "no", 0}, {"B1: =IF(A1>1,TRUE,A1)", "A1", "B1", "3", "no", 0}, {"B1: =IF(A1>1,A1/0,A1)", "A1", "B1", "3", "no", 0}, {"B1: =IF(A1>1,Z9,A1)", "A1", "B1", "3", "no", 0}, {"B1: =SQRT(A1)-1", "A1", "B1", "-2", "no", 0}, {"A1: 1", "A1", "B1", "0", "no", 0}, {"A1: 1", "A1", "GR1000", "0", "no", 0}, {"A1: 1", "B1", "C1", "0", "no", 0},
		// What is divided by is 0.
		{"B1: 5", "A1", "B1", "3", "no", 0}, {line, "C1", "B1", "10", "no", 0}, {"B1: =A1*A1-A1", "A1", "B1", "5", "no", 0}, {"B1: =ABS(A1-0.5)", "A1", "B1", "0", "no", 0},
		// A step is not Ok: the value less what is wanted, the difference of two of these, and what is multiplied ahead of
		// being divided (2 * 1E315 is too great, and would not be if it were divided first).
		{"B1: =999999999999999E300", "A1", "B1", "-999999999999999E300", "no", 0}, {"B1: =IF(A1=0,-1,1)*999999999999999E300", "A1", "B1", "0", "no", 0}, {"B1: =IF(A1<0,999999999999999E300,A1+1)", "A1", "B1", "0", "no", 0}, {"B1: =IF(A1<0,499999999999999E300,A1+1)", "A1", "B1", "0", "no", 0}, {"B1: =IF(A1<0,0,A1+1)", "A1", "B1", "0", "-1", 2},
		// f is 0 behind the last step.
		{"B1: =IF(A1<2,A1,5)", "A1", "B1", "5", "5", 2}, {"B1: =ROUND(A1,0)", "A1", "B1", "3", "3", 2}, {"B1: =IF(A1<2,A1,10)", "A1", "B1", "5", "no", 0},
	})
}

// TestSoughtRoots: numbers that are come near to step by step, each put.
func TestSoughtRoots(t *testing.T) {
	checkSought(t, []seekCase{
		{"B1: =A1*A1", "A1", "B1", "4", "2", 9}, {"B1: =A1*A1", "A1", "B1", "9", "3", 10}, {"B1: =A1^3", "A1", "B1", "8", "2", 13}, {"B1: =A1/3", "A1", "B1", "1", "3", 2}, {"B1: =A1*7/3", "A1", "B1", "1", "0.428571428571429", 2}, // No number of fifteen digits has that square.
		{"B1: =A1*A1", "A1", "B1", "2", "no", 0},
	})
}

func TestNothingSought(t *testing.T) {
	s, a1, want := sheetOf("B1: =A1*3+1"), impl.Change{Row: 1, Col: 1}, decOf(t, "10")
	wantSought(t, s, a1, 1, 2, want, 2, "3")
	for _, r := range noPlaces() {
		wantSought(t, s, impl.Change{Row: r.Row, Col: r.Col}, 1, 2, want, 10, "no")
		wantSought(t, s, a1, r.Row, r.Col, want, 10, "no")
		wantSought(t, s, impl.Change{Row: r.Row, Col: r.Col}, r.Row, r.Col, want, 10, "no")
		wantSought(t, sheetOf("B1: 10"), impl.Change{Row: r.Row, Col: r.Col}, 1, 2, want, 10, "no")
	}
	for _, d := range badDecs() {
		wantSought(t, s, a1, 1, 2, d, 10, "no")
		wantSought(t, s, a1, 1, 1, d, 10, "no")
	}
	for _, s := range noSheets() {
		wantSought(t, s, a1, 1, 1, want, 10, "no")
		wantSought(t, s, a1, 1, 2, want, 10, "no")
		wantSought(t, s, impl.Change{Row: 1, Col: 2}, 1, 1, decOf(t, "1"), 10, "no")
	}
	// With one cell more than there may be there is nothing.
	full := impl.Sheet{Cells: manyCells(300, "10")}
	wantSought(t, full, impl.Change{Row: 1, Col: 1}, 1, 1, want, 10, "10")
	wantSought(t, full, impl.Change{Row: 1, Col: 1}, 1, 2, want, 10, "1")
	wantSought(t, full, impl.Change{Row: 500, Col: 1}, 1, 2, want, 10, "no")
	wantSought(t, full, impl.Change{Row: 500, Col: 1}, 500, 1, want, 10, "no")
}

// walkedSought is the second way: each step by exact fractions, put. It tells how many steps there are, too.
func walkedSought(s impl.Sheet, changing impl.Change, row, col int, want impl.Dec, steps int) (string, int) {
	if steps < 1 || steps > 100 || !impl.GoodDec(want) {
		return "no", 0
	}
	ok := true
	put := func(r *big.Rat) *big.Rat {
		d := wantPut(r)
		ok = ok && d.Ok
		return ratOf(d.Dec)
	}
	missed := func(x *big.Rat) *big.Rat {
		changing.Text = impl.DecText(wantPut(x).Dec)
		v := impl.ValueAt(impl.EvalSheet(impl.WithChanges(s, []impl.Change{changing})), row, col)
		ok = ok && v.Kind == impl.ValNum
		return put(new(big.Rat).Sub(ratOf(v.Num), ratOf(want)))
	}
	first, second := wholeRat(0), wholeRat(1)
	before := missed(first)
	for step := 1; step <= steps && ok; step++ {
		now := missed(second)
		if ok && now.Sign() == 0 {
			return impl.DecText(wantPut(second).Dec), step
		}
		rise := put(new(big.Rat).Sub(now, before))
		if !ok || rise.Sign() == 0 {
			break
		}
		part := put(new(big.Rat).Mul(now, put(new(big.Rat).Sub(second, first))))
		next := put(new(big.Rat).Sub(second, put(part.Quo(part, rise))))
		first, second, before = second, next, now
	}
	return "no", 0
}

// TestRandomSought holds what is found in sheets of many kinds of formulas against the second way.
func TestRandomSought(t *testing.T) {
	eachRandom(t, 120, func(t *testing.T, random *rand.Rand) {
		c := composer{Rand: random}
		number := func() string {
			return c.pick("0", "1", "2", "3", "-1", "10", "0.1", "0.3", "-2.5", "7", "100", "1E10", "1E-10", "123456789012345", "1E150", "-1E200", "1E300", "1E-300", "3E-200")
		}
		formula := strings.NewReplacer("m", number(), "n", number()).Replace(c.pick("=A1*m+n", "=A1*A1*m-n", "=A1^3+m", "=m/(A1+n)", "=(A1-m)*(A1-n)", "=A1/m", "=SQRT(ABS(A1))+m", "=IF(A1>m,A1*2,A1+n)", "=A1-m", "=A1*1E200*m", "=A1*A1*A1*A1", "=ROUND(A1*m,2)", "=SUM(A1:A3)*m", "=IFERROR(m/A1,n)", "=m", "=A1&n"))
		s := sheetOf("B1: " + formula + " | A2: 2 | A3: =A2+B9")
		want, steps := decOf(t, number()), 1+random.Intn(30)
		changing := impl.Change{Row: 1, Col: 1, Text: number()}
		answer, _ := walkedSought(s, changing, 1, 2, want, steps)
		wantSought(t, s, changing, 1, 2, want, steps, answer)
	})
}

// TestAnySought: whatever it is given, it answers, and writes nothing.
func TestAnySought(t *testing.T) {
	eachRandom(t, 25, func(t *testing.T, random *rand.Rand) {
		c := composer{Rand: random}
		near := func() int {
			if random.Intn(15) == 0 {
				return farNumbers[random.Intn(len(farNumbers))]
			}
			return 1 + random.Intn(4)
		}
		s := c.quiet()
		if random.Intn(4) == 0 {
			s = anySheet(c)
		}
		changing := impl.Change{Row: near(), Col: near()}
		row, col, steps, want := near(), near(), near()*3, numOf(randomDec(random, 20)).Num
		if random.Intn(2) == 0 {
			want = countOf(random.Intn(9)).Num
		}
		answer, _ := walkedSought(s, changing, row, col, want, steps)
		wantSought(t, s, changing, row, col, want, steps, answer)
	})
}
