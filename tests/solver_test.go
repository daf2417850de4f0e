package tests

import (
	"fmt"
	"slices"
	"strings"
	"testing"

	"loop.example/g00025/impl"
)

// modelOf reads a goal and limits with ` | ` between, as in `3 2* | 1 1 <= 4`: a star says that a number should be whole.
func modelOf(text string) impl.Model {
	parts := strings.Split(text, " | ")
	var m impl.Model
	for _, word := range strings.Fields(parts[0]) {
		coef, whole := strings.CutSuffix(word, "*")
		m.Goal = append(m.Goal, numVal(coef).Num)
		if strings.Contains(parts[0], "*") {
			m.Whole = append(m.Whole, whole)
		}
	}
	for _, part := range parts[1:] {
		m.Limits = append(m.Limits, limitOf(part))
	}
	return m
}

func limitOf(text string) impl.Limit {
	fields := strings.Fields(text)
	last := len(fields) - 1
	l := impl.Limit{Op: fields[last-1], Right: numVal(fields[last]).Num}
	for _, coef := range fields[:last-1] {
		l.Coefs = append(l.Coefs, numVal(coef).Num)
	}
	return l
}

func clonedModel(m impl.Model) impl.Model {
	out := impl.Model{Goal: slices.Clone(m.Goal), Limits: slices.Clone(m.Limits), Whole: slices.Clone(m.Whole)}
	for i := range out.Limits {
		out.Limits[i].Coefs = slices.Clone(out.Limits[i].Coefs)
	}
	return out
}

func sameModels(a, b impl.Model) bool {
	same := func(k, l impl.Limit) bool {
		return slices.Equal(k.Coefs, l.Coefs) && k.Op == l.Op && k.Right == l.Right
	}
	return slices.Equal(a.Goal, b.Goal) && slices.EqualFunc(a.Limits, b.Limits, same) && slices.Equal(a.Whole, b.Whole)
}

// solutionMark tells a solution as `9 at 1 3`, or in words.
func solutionMark(s impl.Solution) string {
	told := strings.TrimSpace(s.Best + " at " + strings.Join(s.Point, " "))
	switch {
	case s.Kind == 1:
		return told
	case s.Kind < 0 || s.Kind > 4 || s.Best != "" || len(s.Point) > 0:
		return fmt.Sprintf("kind %d with %s", s.Kind, told)
	}
	return []string{"no model", "", "none", "no end", "too many"}[s.Kind]
}

func wantSolved(t *testing.T, from any, m impl.Model, want string) {
	t.Helper()
	was := clonedModel(m)
	got := impl.Solve(m)
	if told := solutionMark(got); told != want {
		t.Errorf("%v\n comes to %s, want %s", from, told, want)
	}
	if got.Kind == 1 && !impl.Meeting(m, got.Point) {
		t.Errorf("%v\n is not met by %v", from, got.Point)
	}
	if !sameModels(m, was) {
		t.Errorf("%v was written into", from)
	}
}

// checkSolved has models and what they come to, whatever should be whole.
func checkSolved(t *testing.T, solved [][2]string) {
	t.Helper()
	for _, c := range solved {
		m := modelOf(c[0])
		if !impl.GoodModel(m) {
			t.Errorf("%s is not good", c[0])
		}
		wantSolved(t, c[0], m, c[1])
		for _, is := range []bool{true, false} {
			m.Whole = slices.Repeat([]bool{is}, len(m.Goal))
			wantSolved(t, c[0], m, c[1])
		}
	}
}

func TestConstantsOfSolver(t *testing.T) {
	got := []int{impl.MaxVars, impl.MaxLimits, impl.MaxNodesTried}
	if want := []int{8, 12, 200}; !slices.Equal(got, want) {
		t.Errorf("%v, want %v", got, want)
	}
}

func TestSolveOneNumber(t *testing.T) {
	checkSolved(t, [][2]string{
		{"1 | 1 <= 4", "4 at 4"}, {"2 | 3 <= 1", "2/3 at 1/3"}, {"1 | 2 = 1", "1/2 at 1/2"}, {"-1 | 1 >= 4", "-4 at 4"}, {"1 | 1 <= 7 | 1 >= 2", "7 at 7"}, {"-1 | 1 <= 7 | 1 >= 2", "-2 at 2"}, {"0.5 | 0.25 <= 0.1", "1/5 at 2/5"}, {"-0.3 | 0.7 >= 1", "-3/7 at 10/7"}, {"7 | 1 <= 0", "0 at 0"}, {"6 | 4 <= 2", "3 at 1/2"},
		// A goal of zeros, and one below 0.
		{"0 | 1 <= 4", "0 at 0"}, {"0 | 1 >= 4", "0 at 4"}, {"0 | 1 = 4", "0 at 4"}, {"-1 | 1 <= 4", "0 at 0"}, {"-2 | 1 = 4", "-8 at 4"}, {"0", "0 at 0"}, {"-1", "0 at 0"},
		// Without a greatest sum.
		{"1", "no end"}, {"0.000001", "no end"}, {"1 | 1 >= 4", "no end"}, {"1 | 1 >= 0", "no end"}, {"1 | -1 <= 4", "no end"}, {"1 | -1 <= -2", "no end"}, {"1 | 0 <= 4", "no end"}, {"1 | 0 = 0", "no end"}, {"1 | 0 >= -1", "no end"},
		// Rights and coefs below 0, of each Op.
		{"1 | 1 <= -1", "none"}, {"1 | 1 = -1", "none"}, {"1 | 1 >= -1", "no end"}, {"-1 | 1 >= -1", "0 at 0"}, {"-1 | -1 <= -2", "-2 at 2"}, {"1 | -1 >= -2", "2 at 2"}, {"1 | -1 >= 2", "none"}, {"1 | -1 = -2", "2 at 2"}, {"1 | -1 = 2", "none"}, {"-3 | -2 <= -5", "-15/2 at 5/2"}, {"3 | -2 >= -5", "15/2 at 5/2"}, {"3 | -2 = -5", "15/2 at 5/2"}, {"-1 | -1 <= 2", "0 at 0"},
		// No numbers keep these.
		{"1 | 1 <= 1 | 1 >= 2", "none"}, {"1 | 0 >= 1", "none"}, {"1 | 0 <= -1", "none"}, {"1 | 0 = 1", "none"}, {"0 | 0 = -1", "none"}, {"1 | 1 = 1 | 1 = 2", "none"}, {"1 | 1 = 1 | 2 = 1", "none"}, {"0 | 1 <= -1", "none"}, {"-1 | 1 <= 1 | 1 >= 1.00001", "none"},
		// Limits that say the same, and such that one number alone keeps.
		{"1 | 1 <= 4 | 1 <= 4", "4 at 4"}, {"1 | 1 <= 4 | 2 <= 8 | 0.5 <= 2", "4 at 4"}, {"1 | 1 = 4 | 2 = 8 | 1 = 4", "4 at 4"}, {"1 | 1 <= 2 | 1 >= 2", "2 at 2"}, {"-1 | 1 <= 2 | 1 >= 2", "-2 at 2"}, {"0 | 1 <= 0 | 1 >= 0", "0 at 0"}, {"1 | 1 <= 4 | 1 <= 3 | 1 <= 5", "3 at 3"}, {"-1 | 1 >= 4 | 1 >= 3 | 1 >= 5", "-5 at 5"},
		// The least and the greatest that a model may have.
		{"999999 | 0.000001 <= 999999000000", "999998000001000000000000 at 999999000000000000"}, {"0.000001 | 999999000000 <= 0.000001", "1/999999000000000000000000 at 1/999999000000000000"}, {"-999999000000 | 0.000001 >= 999999000000", "-999998000001000000000000000000 at 999999000000000000"}, {"123456 | 654321 <= 1", "41152/218107 at 1/654321"},
	})
}

func TestSolveSeveralNumbers(t *testing.T) {
	checkSolved(t, [][2]string{
		{"3 2 | 1 1 <= 4 | 2 1 <= 5", "9 at 1 3"}, {"1 1 | 3 7 <= 11 | 5 2 <= 13", "85/29 at 69/29 16/29"}, {"5 4 | 6 4 <= 24 | 1 2 <= 6", "21 at 3 3/2"}, {"1 2 3 | 1 1 1 <= 10 | 0 0 1 <= 4 | 1 0 0 >= 1", "23 at 1 5 4"}, {"2 -1 | 1 -1 <= 3 | 1 1 <= 9", "9 at 6 3"}, {"-2 -3 | 1 1 >= 4 | 1 3 >= 6", "-9 at 3 1"}, {"1 2 | 1 1 = 3 | 1 -1 = 1", "4 at 2 1"}, {"0.1 0.2 | 0.3 0.1 <= 1 | 0.1 0.3 <= 1", "3/4 at 5/2 5/2"},
		// Rights and coefs below 0, of each Op.
		{"-1 -1 | -1 -1 <= -3 | -1 0 >= -2", "-3 at 0 3"}, {"1 2 | -1 -1 >= -3", "6 at 0 3"}, {"1 2 | -1 -1 = -3 | 0 -1 >= -1", "4 at 2 1"}, {"1 0 | 1 -1 <= -1 | 1 1 <= 5", "2 at 2 3"}, {"1 0 | 1 -1 >= -1 | 0 1 <= 0", "no end"}, {"1 0 | -2 1 >= -3 | 0 1 <= 1", "2 at 2 1"}, {"0 1 | -1 2 = -1 | 1 0 <= 4", "3/2 at 4 3/2"}, {"-1 1 | 1 -1 >= -2 | 1 1 <= -1", "none"}, {"1 1 | -1 -1 <= -3 | 1 1 <= 3", "3 at 0 3"}, {"1 1 | -1 -1 >= 0", "0 at 0 0"}, {"1 1 | -1 -1 >= 1", "none"}, {"-3 -1 | -3 -1 <= -6 | -1 -1 = -4", "-6 at 1 3"},
		// No numbers keep these, also where the sum would have no greatest one.
		{"1 1 | 1 1 <= 1 | 1 1 >= 2", "none"}, {"1 0 | 0 1 <= -1", "none"}, {"1 1 | 1 0 <= 1 | 1 0 >= 2", "none"}, {"1 1 | 1 1 = 3 | 1 1 = 4", "none"}, {"1 2 | 1 1 = 3 | 2 2 = 7", "none"}, {"0 1 | 1 0 <= 1 | 2 0 = 3", "none"}, {"1 1 1 | 1 1 0 <= 1 | 1 0 1 <= 1 | 0 1 1 <= 1 | 1 1 1 >= 1.6", "none"}, {"1 1 1 | 1 1 0 <= 1 | 1 0 1 <= 1 | 0 1 1 <= 1 | 1 1 1 >= 1.5", "3/2 at 1/2 1/2 1/2"},
		// Without a greatest sum.
		{"1 1", "no end"}, {"0 1", "no end"}, {"-1 1", "no end"}, {"1 1 | 1 0 <= 3", "no end"}, {"1 1 | 1 -1 <= 3", "no end"}, {"1 -1 | 1 -1 >= 3", "no end"}, {"0 1 | 1 1 >= 1", "no end"}, {"2 -1 | 1 -1 <= 0", "no end"}, {"1 -2 | 1 -1 <= 0", "0 at 0 0"}, {"1 -1 | 1 -1 <= 0", "0 at 0 0"}, {"1 -0.999999 | 1 -1 = 0", "no end"}, {"1 -1 0 | 1 -1 0 <= 2 | 0 0 1 >= 1", "2 at 2 0 1"},
		// Limits that are told twice, that say the same, and that are kept by one point alone.
		{"1 1 | 1 1 <= 4 | 1 1 <= 4 | 2 2 <= 8 | 1 0 <= 4", "4 at 0 4"}, {"1 2 | 1 1 = 3 | 1 1 = 3 | 2 2 = 6", "6 at 0 3"}, {"1 1 | 1 0 = 2 | 0 1 = 3", "5 at 2 3"}, {"1 1 | 1 1 <= 0", "0 at 0 0"}, {"5 7 | 1 1 >= 2 | 1 1 <= 2 | 1 -1 = 0", "12 at 1 1"}, {"-1 -1 | 1 2 >= 4 | 2 1 >= 5 | 1 1 <= 3", "-3 at 2 1"}, {"3 4 | 1 1 <= 2 | 1 0 >= 1 | 0 1 >= 1", "7 at 1 1"}, {"1 1 | 1 2 <= 3 | 2 1 <= 3 | 1 1 <= 2 | 3 3 <= 6", "2 at 1 1"},
		// A number that no limit has.
		{"0 1 | 0 1 <= 3", "3 at 0 3"}, {"-1 1 | 0 1 <= 3", "3 at 0 3"}, {"1 1 | 0 1 <= 3", "no end"}, {"1 0 1 | 1 0 1 <= 3", "3 at 0 0 3"},
	})
}

// TestSeveralBestPoints: of points of the same sum the one that is least in the first number, then in the second, and so on.
func TestSeveralBestPoints(t *testing.T) {
	checkSolved(t, [][2]string{
		{"1 1 | 1 1 <= 4", "4 at 0 4"}, {"1 1 | 1 1 <= 4 | 2 1 <= 5", "4 at 0 4"}, {"1 1 | 1 1 <= 4 | 0 1 <= 3", "4 at 1 3"}, {"2 2 | 1 1 <= 4 | 1 0 >= 1", "8 at 1 3"}, {"1 0 | 1 0 <= 3", "3 at 3 0"}, {"1 0 | 1 0 <= 3 | 1 1 >= 5", "3 at 3 2"}, {"0 1 | 0 1 <= 3 | 1 1 >= 5", "3 at 2 3"}, {"-1 -1 | 1 1 >= 2", "-2 at 0 2"}, {"-1 -1 | 1 1 = 2 | 0 1 <= 0.5", "-2 at 3/2 1/2"}, {"1 2 | 1 2 <= 7 | 0 1 <= 2", "7 at 3 2"}, {"2 1 | 2 1 <= 7 | 0 1 <= 2", "7 at 5/2 2"},
		// All points are best.
		{"0 0 | 1 1 <= 4", "0 at 0 0"}, {"0 0 | 1 1 >= 4", "0 at 0 4"}, {"0 0 | 1 1 = 4 | 0 1 <= 1", "0 at 3 1"}, {"0 0 | 1 -1 >= 2", "0 at 2 0"}, {"0 0 | 1 2 >= 4 | 2 1 >= 4 | 0 1 <= 3", "0 at 1/2 3"}, {"0 0", "0 at 0 0"}, {"0 0 0 | 1 1 1 >= 6 | 0 1 1 <= 5 | 0 0 1 <= 2", "0 at 1 3 2"},
		// Sides and edges of more numbers.
		{"1 1 1 | 1 1 1 <= 2", "2 at 0 0 2"}, {"1 1 1 | 1 1 1 <= 6 | 0 0 1 <= 2 | 0 1 0 <= 3", "6 at 1 3 2"}, {"1 1 0 | 1 1 0 <= 2 | 1 1 1 >= 5", "2 at 0 2 3"}, {"1 1 -1 | 1 1 -1 <= 2 | 0 0 1 <= 4", "2 at 0 2 0"}, {"0 1 1 | 0 1 1 <= 3 | 1 1 0 >= 2", "3 at 0 2 1"}, {"3 3 3 3 | 1 1 1 1 <= 1 | 0 0 0 1 <= 0.5 | 0 0 1 1 <= 0.75", "3 at 0 1/4 1/4 1/2"}, {"-1 -1 -1 | 1 1 0 >= 1 | 0 1 1 >= 1 | 1 0 1 >= 1", "-3/2 at 1/2 1/2 1/2"}, {"-2 -2 -2 | 1 1 0 >= 1 | 0 1 1 >= 1", "-2 at 0 1 0"},
		// The best points go on without an end.
		{"1 -1 | 1 -1 <= 2", "2 at 2 0"}, {"0 -1 | 1 1 >= 3", "0 at 3 0"}, {"-1 0 | 1 1 >= 3", "0 at 0 3"}, {"-1 0 0 | 1 1 -1 >= 3", "0 at 0 3 0"}, {"0 0 -1 | 1 -1 1 = 2", "0 at 2 0 0"}, {"1 -1 0 | 1 -1 0 = -2 | 0 1 1 >= 5", "-2 at 0 2 3"},
	})
}

// boxOf is a model of so many numbers and limits, each of which holds one number back.
func boxOf(numbers, limits int) impl.Model {
	m := impl.Model{}
	for i := range numbers {
		m.Goal = append(m.Goal, countOf(i+1).Num)
	}
	for i := range limits {
		l := impl.Limit{Coefs: make([]impl.Dec, numbers), Op: "<=", Right: countOf(12 - i).Num}
		if numbers > 0 {
			l.Coefs[i%numbers] = countOf(1).Num
		}
		m.Limits = append(m.Limits, l)
	}
	return m
}

// TestMostNumbersAndLimits: as many as there may be, and one more.
func TestMostNumbersAndLimits(t *testing.T) {
	for _, c := range []struct {
		numbers, limits int
		want            string
	}{
		{8, 8, "264 at 12 11 10 9 8 7 6 5"}, {8, 12, "184 at 4 3 2 1 8 7 6 5"}, {7, 12, "119 at 5 4 3 2 1 7 6"}, {4, 12, "20 at 4 3 2 1"}, {2, 12, "4 at 2 1"}, {1, 12, "1 at 1"}, {1, 1, "12 at 12"}, {8, 7, "no end"}, {8, 0, "no end"},
		{9, 9, "no model"}, {9, 0, "no model"}, {8, 13, "no model"}, {1, 13, "no model"}, {0, 0, "no model"}, {0, 1, "no model"}, {9, 12, "no model"}, {100, 100, "no model"},
	} {
		m := boxOf(c.numbers, c.limits)
		if impl.GoodModel(m) != (c.want != "no model") {
			t.Errorf("%d numbers with %d limits: good %v", c.numbers, c.limits, impl.GoodModel(m))
		}
		wantSolved(t, c, m, c.want)
	}
	// Each of all numbers in each of all limits: the least one of them counts.
	full := impl.Model{Goal: slices.Repeat([]impl.Dec{countOf(1).Num}, 8)}
	for i := range 12 {
		full.Limits = append(full.Limits, impl.Limit{Coefs: slices.Clone(full.Goal), Op: []string{"<=", ">="}[i%2], Right: countOf([]int{40 - i, i}[i%2]).Num})
	}
	wantSolved(t, full, full, "30 at 0 0 0 0 0 0 0 30")
	full.Limits[11].Op = "="
	wantSolved(t, full, full, "11 at 0 0 0 0 0 0 0 11")
}

// TestSteepCorners: models whose corners are gone through one by one by many ways to solve them.
func TestSteepCorners(t *testing.T) {
	m := impl.Model{}
	for i := range 8 {
		m.Goal = append(m.Goal, countOf(1<<(7-i)).Num)
		l := impl.Limit{Coefs: make([]impl.Dec, 8), Op: "<=", Right: countOf([]int{5, 25, 125, 625, 3125, 15625, 78125, 390625}[i]).Num}
		for j := range i {
			l.Coefs[j] = countOf(1 << (i - j + 1)).Num
		}
		l.Coefs[i] = countOf(1).Num
		m.Limits = append(m.Limits, l)
	}
	wantSolved(t, m, m, "390625 at 0 0 0 0 0 0 0 390625")
	checkSolved(t, [][2]string{
		// At one corner more limits meet than there are numbers: some ways go round and round there.
		{"0.75 -150 0.02 -6 | 0.25 -60 -0.04 9 <= 0 | 0.5 -90 -0.02 3 <= 0 | 0 0 1 0 <= 1", "1/20 at 1/25 0 1 0"}, {"10 -57 -9 -24 | 0.5 -5.5 -2.5 9 <= 0 | 0.5 -1.5 -0.5 1 <= 0 | 1 0 0 0 <= 1", "1 at 1 0 1 0"}, {"2 3 -1 -12 | -2 -9 1 9 <= 0 | 0.333333 1 -0.333333 -2 <= 0", "no end"}, {"1 1 1 | 1 1 0 <= 0 | 0 1 1 <= 0 | 1 0 1 <= 0 | 1 1 1 <= 0", "0 at 0 0 0"}, {"1 -2 1 | 2 -1 0 <= 0 | 0 1 -1 <= 0 | 1 0 -1 <= 0 | 0 0 1 <= 1", "1 at 0 0 1"},
	})
}

// badModels: each breaks one rule of the good ones.
func badModels() []impl.Model {
	ways := []func(m *impl.Model){
		func(m *impl.Model) { m.Goal = nil }, func(m *impl.Model) { m.Goal = m.Goal[:1] }, func(m *impl.Model) { m.Goal = append(m.Goal, impl.Dec{}) },
		func(m *impl.Model) { m.Limits[0].Coefs = nil }, func(m *impl.Model) { m.Limits[1].Coefs = m.Limits[1].Coefs[:1] }, func(m *impl.Model) { m.Limits[0].Coefs = append(m.Limits[0].Coefs, impl.Dec{}) }, func(m *impl.Model) { m.Limits[1].Coefs = make([]impl.Dec, 1000) },
		func(m *impl.Model) { m.Whole = []bool{false} }, func(m *impl.Model) { m.Whole = []bool{true} }, func(m *impl.Model) { m.Whole = make([]bool, 3) }, func(m *impl.Model) { m.Whole = make([]bool, 1000) },
		func(m *impl.Model) { m.Limits = slices.Repeat(m.Limits, 7)[:13] }, func(m *impl.Model) { m.Limits = slices.Repeat(m.Limits, 1000) },
	}
	for _, op := range []string{"", "<", ">", "==", "=<", "=>", "<>", "< =", " <=", "<= ", "=\x00", "\u2264", "le", "+", "<=>="} {
		ways = append(ways, func(m *impl.Model) { m.Limits[0].Op = op }, func(m *impl.Model) { m.Limits[1].Op = op })
	}
	for _, d := range append(badDecs(), noModelDecs()...) {
		ways = append(ways, func(m *impl.Model) { m.Goal[1] = d }, func(m *impl.Model) { m.Limits[0].Coefs[0] = d }, func(m *impl.Model) { m.Limits[1].Coefs[1] = d }, func(m *impl.Model) { m.Limits[0].Right = d }, func(m *impl.Model) { m.Limits[1].Right = d })
	}
	var out []impl.Model
	for _, change := range ways {
		m := modelOf("3 2 | 1 1 <= 4 | 2 1 <= 5")
		change(&m)
		out = append(out, m)
	}
	return out
}

// noModelDecs are good decimals of 7 digits or more, or with an Exp that is beyond.
func noModelDecs() []impl.Dec {
	return []impl.Dec{{Digits: 1000001}, {Digits: 1234567}, {Digits: 1234567, Exp: -6}, {Neg: true, Digits: 1000001}, {Digits: 9999999, Exp: 6}, {Digits: 999999999999999}, {Digits: 1, Exp: 7}, {Digits: 1, Exp: -7}, {Neg: true, Digits: 1, Exp: 7}, {Digits: 999999, Exp: -7}, {Digits: 999999, Exp: 7}, {Digits: 1, Exp: 300}, {Digits: 1, Exp: -300}, {Digits: 999999999999999, Exp: 300}}
}

func TestGoodModel(t *testing.T) {
	for _, text := range []string{"0", "1", "1*", "1 | 1 <= 1 | 1 >= 1 | 1 = 1", "1* 2", "1 2*", "1* 2* 3*", "0 0 | 0 0 = 0", "999999 -999999 | 0.000001 -0.000001 <= 999999000000", "1E6 1E-6 | 123456E-6 123456E6 >= -999999E6", "-1 | -1 = -1"} {
		if m := modelOf(text); !impl.GoodModel(m) {
			t.Errorf("%s is not good", text)
		}
	}
	m := modelOf("1 2 | 3 4 <= 5")
	m.Whole = []bool{}
	m.Limits[0].Coefs = m.Limits[0].Coefs[:2:2]
	if !impl.GoodModel(m) {
		t.Error("with an empty list of what should be whole it is not good")
	}
	for _, m := range badModels() {
		was := clonedModel(m)
		if impl.GoodModel(m) {
			t.Errorf("%v is good", m)
		}
		wantSolved(t, m, m, "no model")
		if told := solutionMark(impl.SolveWhole(m, 100)); told != "no model" {
			t.Errorf("%v comes to %s", m, told)
		}
		for _, point := range [][]string{nil, {"0"}, {"0", "0"}, {"1", "3"}, {"0", "0", "0"}} {
			if impl.Meeting(m, point) || impl.CheckNone(m, point) || impl.CheckBest(m, "9", point, []string{"1", "1"}) || impl.CheckBest(m, "0", point, point) {
				t.Errorf("%v is taken with %v", m, point)
			}
		}
		if !sameModels(m, was) {
			t.Errorf("%v was written into", was)
		}
	}
}

// TestSolutionsAreNewMemory writes into answers, and into what was handed in.
func TestSolutionsAreNewMemory(t *testing.T) {
	m := modelOf("5* 4* | 6 4 <= 24 | 1 2 <= 6")
	solve := func() []impl.Solution {
		return []impl.Solution{impl.Solve(m), impl.SolveWhole(m, 200), impl.SolveWhole(m, 5)}
	}
	list := solve()
	for _, s := range list {
		_ = append(s.Point, "x", "x", "x")
		clear(s.Point)
	}
	again := solve()
	clear(m.Goal)
	clear(m.Limits[0].Coefs)
	clear(m.Limits)
	clear(m.Whole)
	for i, want := range []string{"21 at 3 3/2", "20 at 4 0", "20 at 4 0"} {
		if told := solutionMark(again[i]); told != want {
			t.Errorf("%s, want %s", told, want)
		}
	}
}
