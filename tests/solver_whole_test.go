package tests

import (
	"slices"
	"strconv"
	"testing"

	"loop.example/g00025/impl"
)

func wantWhole(t *testing.T, from any, m impl.Model, tried int, want string) {
	t.Helper()
	was := clonedModel(m)
	if told := solutionMark(impl.SolveWhole(m, tried)); told != want {
		t.Errorf("%v\n comes to %s when %d are tried, want %s", from, told, tried, want)
	}
	if !sameModels(m, was) {
		t.Errorf("%v was written into", from)
	}
}

// noTries are numbers of models that may not be told.
var noTries = append([]int{0, 201, 202, 256 + 100, 1<<32 + 5}, farNumbers...)

// checkWhole has a model, what it comes to, and how many models are solved in the way: with fewer there are too many.
func checkWhole(t *testing.T, from string, m impl.Model, want string, need int) {
	t.Helper()
	for _, tried := range []int{need, need + 1, impl.MaxNodesTried} {
		wantWhole(t, from, m, min(tried, impl.MaxNodesTried), want)
	}
	for tried := 1; tried < need; tried += max(1, min(7, need-1-tried)) {
		wantWhole(t, from, m, tried, "too many")
	}
	for _, tried := range noTries {
		wantWhole(t, from, m, tried, "no model")
	}
}

type wholeCase struct {
	model string
	want  string
	need  int
}

func checkWholes(t *testing.T, cases []wholeCase) {
	t.Helper()
	for _, c := range cases {
		checkWhole(t, c.model, modelOf(c.model), c.want, c.need)
	}
}

func TestSolveWhole(t *testing.T) {
	checkWholes(t, []wholeCase{
		// y <= 1, then x <= 3 and x >= 4, then y >= 2.
		{"5* 4* | 6 4 <= 24 | 1 2 <= 6", "20 at 4 0", 5},
		{"1* | 2 <= 5", "2 at 2", 3}, {"1* | 1 <= 5", "5 at 5", 1}, {"-1* | 2 >= 5", "-3 at 3", 3}, {"3* | 0.000003 <= 1", "999999 at 333333", 3}, {"-1* | -2 <= -5", "-3 at 3", 3}, {"1* | -2 >= -5", "2 at 2", 3}, {"0* | 2 >= 5", "0 at 3", 3}, {"1* | 999999 <= 0.000001", "0 at 0", 3}, {"1* | 0.000007 <= 999999000000", "142857000000000000 at 142857000000000000", 1}, {"1* | 0.000007 <= 999998000000", "142856857142857142 at 142856857142857142", 3},
		// There are no whole ones.
		{"1* | 2 = 1", "none", 3}, {"0* | 2 = 1", "none", 3}, {"1* | 2 >= 1 | 2 <= 1", "none", 3}, {"1* | 3 >= 4 | 3 <= 5", "none", 3}, {"1* 1* | 2 4 = 7 | 1 0 <= 3", "none", 7},
		// Nothing keeps the limits, and the sum has no greatest one.
		{"1* | 1 <= -1", "none", 1}, {"1* 1* | 2 2 <= 5 | 1 1 >= 3", "none", 1}, {"1*", "no end", 1}, {"1* 1* | 2 -2 = 1", "no end", 1}, {"1* 1 | 2 0 <= 1", "no end", 1}, {"1* 1 | 0 2 <= -1", "none", 1},
		// Some should be whole, and some not.
		{"3 2* | 2 2 <= 5", "15/2 at 5/2 0", 1}, {"2 3* | 2 2 <= 5", "7 at 1/2 2", 3}, {"2* 3 | 2 2 <= 5", "15/2 at 0 5/2", 1}, {"3* 2 | 2 2 <= 5", "7 at 2 1/2", 3}, {"3 2 | 2 2 <= 5", "15/2 at 5/2 0", 1}, {"2 | 2 <= 5", "5 at 5/2", 1}, {"1 1* 1 | 2 2 2 <= 7 | 0 0 1 <= 0.25 | 1 0 0 <= 0.75", "7/2 at 1/4 3 1/4", 3},
		// The one that should be whole is so at once.
		{"1* 1 | 2 2 <= 5", "5/2 at 0 5/2", 1},
	})
	m := modelOf("1 2 | 2 2 <= 5")
	for _, whole := range [][]bool{nil, {}, {false, false}} {
		m.Whole = whole
		checkWhole(t, "nothing should be whole", m, "5 at 0 5/2", 1)
	}
	m.Whole = []bool{false, true}
	checkWhole(t, "the second one should be whole", m, "9/2 at 1/2 2", 3)
}

// TestFirstInTheWay: of points of the same Best the one that is found first is told, and what is not better is left.
func TestFirstInTheWay(t *testing.T) {
	checkWholes(t, []wholeCase{
		// At first y is 5/2; with y <= 2 x is 1/2, and with x <= 0 there is 0 2. With x >= 1 y is 3/2, and so on.
		{"1* 1* | 2 2 <= 5", "2 at 0 2", 13},
		// With y <= 1 x is 1/2, with x >= 1 y is 1/2, and with y <= 0 x is 3/2: so 2 0 is found ahead of 1 1 and 0 2.
		{"-1* -1* | 1 1 >= 1.5", "-2 at 2 0", 9},
		// With x <= 3 the sum is 6, and so it is with x >= 4, where y is 2/3.
		{"2* -3 | 3 -3 <= 10", "6 at 3 0", 3},
		// Here the second one is better.
		{"1* -1 | 3 -3 <= 10", "10/3 at 4 2/3", 3}, {"2* -2.9 | 3 -3 <= 10", "91/15 at 4 2/3", 3},
		// All sums are the same.
		{"0* 0* | 2 2 = 6 | 1 -1 <= 0.5", "0 at 0 3", 1}, {"0* 0* | 2 0 >= 3 | 0 2 >= 3", "0 at 2 2", 5},
	})
}

// TestTooManyModels: the way of these goes on without an end, or for very long.
func TestTooManyModels(t *testing.T) {
	for _, text := range []string{"-1* -1* | 2 -2 = 1", "0* 0* | 2 -2 = 1", "-1* -1* 0 | 6 -6 0 = 3 | 0 0 1 <= 1", "-1* 0* | 3 -3 >= 1 | 3 -3 <= 2"} {
		for _, tried := range []int{1, 2, 3, 4, 50, 199, 200} {
			wantWhole(t, text, modelOf(text), tried, "too many")
		}
	}
	// These end, each behind 4 more for each whole number that there is room for.
	for room := range 60 {
		for _, c := range []struct {
			model string
			need  int
		}{{"-1* -1* | 2 -2 = 1 | 0 1 <= ", 4*room + 3}, {"-1* -1* | 2 -2 = 1 | 1 0 <= ", 4*room + 1}} {
			text := c.model + strconv.Itoa(room)
			if c.need > impl.MaxNodesTried {
				wantWhole(t, text, modelOf(text), impl.MaxNodesTried, "too many")
			} else {
				wantWhole(t, text, modelOf(text), c.need-1, []string{"no model", "too many"}[min(c.need-1, 1)])
				wantWhole(t, text, modelOf(text), c.need, "none")
			}
		}
	}
	last := "-1* -1* | 2 -2 = 1 | 0 1 <= 49"
	checkWhole(t, last, modelOf(last), "none", 199)
}

// TestManyLimitsInTheWay: models in the way may have more limits than those that are handed in.
func TestManyLimitsInTheWay(t *testing.T) {
	m := boxOf(8, 12)
	for i := range m.Limits {
		m.Limits[i].Right = numVal("2.5").Num
	}
	m.Whole = slices.Repeat([]bool{true}, 8)
	checkWhole(t, "a box of whole numbers", m, "72 at 2 2 2 2 2 2 2 2", 17)
	m.Whole[7] = false
	checkWhole(t, "a box of whole numbers and one that is not", m, "76 at 2 2 2 2 2 2 2 5/2", 15)
}
