package tests

import (
	"slices"
	"strings"
	"testing"

	"loop.example/g00025/impl"
)

// wantChecked asks a question about fractions, and that nothing is written into what it is asked of.
func wantChecked(t *testing.T, what, from any, m impl.Model, lists [][]string, got func() bool, want bool) {
	t.Helper()
	wasModel, wasLists := clonedModel(m), make([][]string, len(lists))
	for i := range lists {
		wasLists[i] = slices.Clone(lists[i])
	}
	if is := got(); is != want {
		t.Errorf("%v of %v with %q: %v", what, from, lists, is)
	}
	if !sameModels(m, wasModel) || !slices.EqualFunc(lists, wasLists, slices.Equal) {
		t.Errorf("%v or %q was written into", from, lists)
	}
}

func wantBest(t *testing.T, from any, m impl.Model, best string, point, proof []string, want bool) {
	t.Helper()
	wantChecked(t, "the best "+best, from, m, [][]string{point, proof}, func() bool { return impl.CheckBest(m, best, point, proof) }, want)
}

func wantNone(t *testing.T, from any, m impl.Model, proof []string, want bool) {
	t.Helper()
	wantChecked(t, "having none", from, m, [][]string{proof}, func() bool { return impl.CheckNone(m, proof) }, want)
}

func wantMeeting(t *testing.T, from any, m impl.Model, point []string, want bool) {
	t.Helper()
	wantChecked(t, "meeting", from, m, [][]string{point}, func() bool { return impl.Meeting(m, point) }, want)
}

// checkBests has models, bests, points and proofs, and whether they are taken: whatever should be whole.
func checkBests(t *testing.T, want bool, bests [][4]string) {
	t.Helper()
	for _, c := range bests {
		m := modelOf(c[0])
		wantBest(t, c[0], m, c[1], strings.Fields(c[2]), strings.Fields(c[3]), want)
		m.Whole = slices.Repeat([]bool{true}, len(m.Goal))
		wantBest(t, c[0], m, c[1], strings.Fields(c[2]), strings.Fields(c[3]), want)
	}
}

func TestCheckBest(t *testing.T) {
	checkBests(t, true, [][4]string{
		{"3 2 | 1 1 <= 4 | 2 1 <= 5", "9", "1 3", "1 1"}, {"1 | 1 <= 4", "4", "4", "1"}, {"2 | 3 <= 1", "2/3", "1/3", "2/3"}, {"-1 | 1 >= 4", "-4", "4", "-1"}, {"1 | 2 = 1", "1/2", "1/2", "1/2"}, {"-1 | 2 = 1", "-1/2", "1/2", "-1/2"}, {"5 4 | 6 4 <= 24 | 1 2 <= 6", "21", "3 3/2", "3/4 1/2"}, {"-0.3 | 0.7 >= 1", "-3/7", "10/7", "-3/7"},
		// A limit that holds nothing back counts for nothing.
		{"1 | 1 <= 4 | 1 <= 9", "4", "4", "1 0"}, {"1 | 1 <= 9 | 1 <= 4 | 1 >= 0", "4", "4", "0 1 0"}, {"-1 | 1 <= 4", "0", "0", "0"}, {"0 | 1 <= 4", "0", "3", "0"}, {"-5", "0", "0", ""}, {"0 0", "0", "7 1/3", ""},
		// More of a coef than the goal has, where the number is 0.
		{"1 0 | 1 1 <= 4", "4", "4 0", "1"}, {"2 1 | 1 1 <= 4", "8", "4 0", "2"},
		// Any of several best points, and any of several proofs.
		{"1 1 | 1 1 <= 4", "4", "0 4", "1"}, {"1 1 | 1 1 <= 4", "4", "4 0", "1"}, {"1 1 | 1 1 <= 4", "4", "1/3 11/3", "1"}, {"1 | 1 <= 4 | 2 <= 8", "4", "4", "1 0"}, {"1 | 1 <= 4 | 2 <= 8", "4", "4", "0 1/2"}, {"1 | 1 <= 4 | 2 <= 8", "4", "4", "1/2 1/4"}, {"1 | 1 <= 4 | 2 <= 8", "4", "4", "1/3 1/3"},
		// Any sign for `=`; rights and coefs below 0.
		{"1 2 | 1 1 = 3 | 1 -1 = 1", "4", "2 1", "3/2 -1/2"}, {"-1 -2 | 1 1 = 3 | 1 -1 = 1", "-4", "2 1", "-3/2 1/2"}, {"1 | -1 >= -2", "2", "2", "-1"}, {"1 | -1 = -2", "2", "2", "-1"}, {"-1 | -1 <= -2", "-2", "2", "1"}, {"1 0 | 1 -1 <= -1 | 1 1 <= 5", "2", "2 3", "1/2 1/2"},
	})
}

func TestNoProofOfBest(t *testing.T) {
	checkBests(t, false, [][4]string{
		{"3 2 | 1 1 <= 4 | 2 1 <= 5", "9", "1 3", "1 1/2"}, {"3 2 | 1 1 <= 4 | 2 1 <= 5", "8", "1 3", "1 1"}, {"3 2 | 1 1 <= 4 | 2 1 <= 5", "9", "0 0", "1 1"}, {"3 2 | 1 1 <= 4 | 2 1 <= 5", "9", "3 1", "1 1"},
		// The sum of the point is another one, or the proof's right side is.
		{"1 | 1 <= 4", "4", "3", "1"}, {"1 | 1 <= 4", "3", "3", "1"}, {"1 | 1 <= 4", "4", "4", "2"}, {"1 | 1 <= 4", "8", "4", "2"}, {"1 | 1 <= 4 | 1 <= 9", "4", "4", "1 1"}, {"0 | 1 <= 4", "0", "0", "1"}, {"-5", "-5", "1", ""}, {"1 | 1 <= 4", "4000001/1000000", "4", "1"}, {"1 | 1 <= 4", "4", "3999999/1000000", "1"},
		// Only the sign of the proof is not as it should be.
		{"-1 | 1 <= 4", "-4", "4", "-1"}, {"1 | 1 >= 4", "4", "4", "1"}, {"1 | 1 <= 4 | 1 >= 2", "4", "4", "1/2 1"}, {"1 | 1 <= 4 | 1 <= 2", "2", "2", "-1 3"}, {"1 -1 | 1 0 <= 4 | 0 1 <= 2", "2", "4 2", "1 -1"},
		// Only one of the goal's coefs is more than what comes of the limits.
		{"1 1 | 1 0 <= 4", "4", "4 0", "1"}, {"1 | 1 <= 4", "2", "2", "1/2"}, {"1 1 | 1 1 <= 4 | 0 1 <= 0", "2", "2 0", "1/2 1"}, {"1 -1 | 1 -2 <= 4", "4", "4 0", "1"}, {"1.00001 | 1 <= 4", "4", "400000/100001", "1"},
		// Only the point is not as it should be: below 0, or a limit is broken, of each Op.
		{"-1 | 1 <= 4", "4", "-4", "1"}, {"1 | 1 <= 4", "5", "5", "5/4"}, {"-1 | 1 >= 4", "-2", "2", "-1/2"}, {"0 | 1 = 4", "0", "3", "0"}, {"0 | 1 = 4", "0", "5", "0"}, {"0 0 | 1 1 <= 4", "0", "5 -1", "0"}, {"0 0 | 1 1 <= 4 | 1 0 >= 2", "0", "1 1", "0 0"}, {"0 | 3 = 1", "0", "333333/1000000", "0"},
		// The sum has no greatest one, or there are no numbers.
		{"1", "0", "0", ""}, {"1 | 1 >= 4", "4", "4", "-1"}, {"1 | 1 >= 4", "4", "4", "0"}, {"1 | 1 <= 1 | 1 >= 2", "1", "1", "1 0"}, {"0 | 0 = 1", "0", "0", "0"},
		// Too few and too many.
		{"1 | 1 <= 4", "4", "4", ""}, {"1 | 1 <= 4", "4", "4", "1 0"}, {"1 | 1 <= 4", "4", "", "1"}, {"1 | 1 <= 4", "4", "4 0", "1"}, {"1 0 | 1 1 <= 4", "4", "4", "1"}, {"1 | 1 <= 4 | 2 <= 8", "4", "4", "1"}, {"-5", "0", "0", "0"}, {"-5", "0", "", ""}, {"-5", "0", "0 0", ""}, {"1 | 1 <= 4", "4", "4", "1 1 1 1 1 1 1 1 1 1 1 1 1"},
	})
}

func TestCheckNone(t *testing.T) {
	for _, c := range [][2]string{
		{"1 | 1 <= 1 | 1 >= 2", "1 -1"}, {"1 | 1 <= 1 | 1 >= 2", "5 -5"}, {"1 | 1 <= 1 | 1 >= 2", "1/3 -1/3"}, {"1 | 1 <= 1 | 1 >= 2", "3 -2"}, {"7 | 1 <= -1", "1"}, {"1 | 1 <= -1", "1/1000"}, {"0 | 1 = -1", "1"}, {"1 | -1 = 2", "-1"}, {"1 | -1 >= 2", "-1"}, {"1 | 0 >= 1", "-1"}, {"1 | 0 <= -1", "4"}, {"1 | 0 = 1", "-1"}, {"1 | 0 = -1", "1"}, {"1 | 1 = 1 | 1 = 2", "1 -1"}, {"1 | 1 = 1 | 2 = 1", "-2 1"}, {"1 1 | 1 1 = 3 | 2 2 = 7", "2 -1"}, {"1 | 1 <= 1 | 1 >= 2 | 1 <= 50", "1 -1 0"}, {"1 | 1 <= 0 | 2 >= 0.000001", "2 -1"}, {"1 1 1 | 1 1 0 <= 1 | 1 0 1 <= 1 | 0 1 1 <= 1 | 1 1 1 >= 1.6", "1/2 1/2 1/2 -1"},
	} {
		wantNone(t, c[0], modelOf(c[0]), strings.Fields(c[1]), true)
		m := modelOf(c[0])
		m.Whole = make([]bool, len(m.Goal))
		wantNone(t, c[0], m, strings.Fields(c[1]), true)
		wantSolved(t, c[0], m, "none")
	}
	for _, c := range [][2]string{
		{"1 | 1 <= 1 | 1 >= 2", "1 1"}, {"1 | 1 <= 1 | 1 >= 2", "2 -1"}, {"1 | 1 <= 1 | 1 >= 2", "1 -2"}, {"1 | 1 <= 1 | 1 >= 2", "0 0"}, {"1 | 1 <= 1 | 1 >= 2", "-1 1"},
		// Only the sign is not as it should be.
		{"1 | 0 <= 1", "-1"}, {"1 | 0 >= -1", "1"}, {"1 | -1 <= 1", "-1"}, {"1 | 1 >= -1", "1"}, {"1 | 1 <= 4 | 1 <= 1", "-1 1"}, {"1 | 1 >= 1 | 1 >= 4", "1 -1"},
		// Only the coefs, or only the right side.
		{"1 | 1 >= 2", "-1"}, {"1 1 | 1 0 <= 1 | 1 1 >= 2", "1 -1"}, {"1 | 1 = 1", "-1"}, {"1 | 1 <= 0", "1"}, {"1 | 1 <= 1 | 1 >= 1", "1 -1"}, {"1 | 0 = 0", "-1"}, {"1 | 1 <= 1", "1"}, {"1 | 1 = 1 | 2 = 1", "-1 1"},
		// Too few and too many; no limits.
		{"1 | 1 <= 1 | 1 >= 2", ""}, {"1 | 1 <= 1 | 1 >= 2", "1"}, {"1 | 1 <= 1 | 1 >= 2", "1 -1 0"}, {"1 | 1 <= -1", ""}, {"1 | 1 <= -1", "1 0"}, {"1", ""}, {"1", "-1"}, {"0 0", ""},
	} {
		wantNone(t, c[0], modelOf(c[0]), strings.Fields(c[1]), false)
	}
}

func TestMeeting(t *testing.T) {
	two := "3 2 | 1 1 <= 4 | 2 1 <= 5"
	for _, c := range []struct {
		model, point string
		want         bool
	}{
		{two, "1/2 3", true}, {two, "1 3", true}, {two, "0 0", true}, {two, "0 4", true}, {two, "5/2 0", true}, {two, "1/3 11/3", true}, {two, "-1 0", false}, {two, "0 -1/7", false}, {two, "2 2", false}, {two, "1 300001/100000", false}, {two, "5/2 1/1000000", false}, {two, "2/4 0", false},
		{"1 | 1 >= 4", "4", true}, {"1 | 1 >= 4", "5", true}, {"1 | 1 >= 4", "39/10", false}, {"1 | 3 = 1", "1/3", true}, {"1 | 3 = 1", "333333/1000000", false}, {"1 | 3 = 1", "333334/1000000", false}, {"1 | 3 = 1", "0", false}, {"1 | 3 = 1", "1", false}, {"1 | -1 <= -4", "4", true}, {"1 | -1 <= -4", "3", false}, {"1 | -1 >= -4", "5", false}, {"1 | -1 = -4", "4", true}, {"1 | 1 <= 4 | 1 >= 4 | 1 = 4", "4", true}, {"1 | 1 <= 4 | 1 >= 5", "4", false}, {"1 | 1 <= 4 | 1 >= 5", "5", false},
		// What should be whole counts for nothing; no limits; more and fewer numbers.
		{"1* | 2 = 1", "1/2", true}, {"1", "0", true}, {"1", "7/3", true}, {"1", "-7/3", false}, {"1", "", false}, {"1", "0 0", false}, {two, "", false}, {two, "1", false}, {two, "1 1 1", false}, {"1 1 1 1 1 1 1 1 | 1 1 1 1 1 1 1 1 = 8", "1 1 1 1 1 1 1 1", true}, {"1 1 1 1 1 1 1 1 | 1 1 1 1 1 1 1 1 = 8", "1 1 1 1 1 1 1 8/7", false},
		{"1 1 | 1 1 = 1", "1/3 2/3", true}, {"1 1 | 0.1 0.2 = 0.3", "1 1", true}, {"1 1 | 0.1 -0.3 = 0", "3 1", true},
	} {
		wantMeeting(t, c.model, modelOf(c.model), strings.Fields(c.point), c.want)
	}
}

func nines(n int) string { return strings.Repeat("9", n) }

// goodFractions are texts of fractions; the long ones are in lowest terms, since 9..9 and 10..0 have no divisor in common.
func goodFractions() []string {
	ten := "1" + noughts(199)
	return []string{"0", "1", "-1", "9", "10", "-10", "100", "1/2", "-1/2", "3/2", "-7/3", "100/3", "3/100", "1/10", "-1/1000000", "17/19", nines(200), "-" + nines(200), ten, "1/" + nines(200), "-1/" + nines(200), nines(200) + "/" + ten, "-" + ten + "/" + nines(200), ten + "/3", nines(199) + "/2"}
}

// noFractions are texts that are none, or not told as they should be.
func noFractions() []string {
	out := []string{
		"", "-", "/", "-/", "1/", "/1", "/2", "-/2", "1//2", "1/2/3", "1/2/", "+1", "+1/2", "1/+2", "--1", "-+1", "1/-2", "-1/-2", "1-", "1/2-",
		"-0", "00", "01", "-01", "001/2", "1/02", "01/2", "0/1", "0/2", "-0/2", "0/0", "1/0", "-1/0", "1/00", "1/1", "2/1", "-3/1", "10/1", "2/2", "2/4", "-2/4", "3/6", "6/4", "10/4", "100/10", "0/9",
		" 1", "1 ", " ", "1 /2", "1/ 2", "1\n", "\t1", "1\x00", "\x001", "1/2\x00", "1.0", "1.5", "0.5", ".5", "1.", "1,5", "1e2", "1E2", "1e1000000000", "1/1e9", "1p5", "0x1", "0b1", "0o7", "1_0", "1/0x2", "1_0/3", "Inf", "-Inf", "NaN", "inf", "half", "x", "1x", "x/2", "1/x", "TRUE", "#N/A", "'1", "=1", "(1)", "1%", "\u00bd", "\uff11", "\u0661", "\u22121", "\u20131", "1\u20442", "\xff", "1\xff",
		nines(201), "-" + nines(201), "1/" + nines(201), nines(201) + "/2", "1" + noughts(200), "1" + noughts(200) + "/3", "3/1" + noughts(200), "0" + nines(200), noughts(200), noughts(300), nines(200) + "/" + nines(201), nines(5000), "1/" + nines(5000), nines(100000) + "/" + nines(100000), "1e" + nines(50), strings.Repeat("-", 1000), strings.Repeat("/", 1000),
		nines(200) + "/" + nines(200), nines(200) + "/" + nines(100), "2/" + "1" + noughts(199),
	}
	return out
}

// TestFractions: where a fraction is wanted, only one that is told as it should be is taken.
func TestFractions(t *testing.T) {
	// These are proven by the first limit alone, whatever the second is taken for.
	none, best := modelOf("1 | 0 = 1 | 0 = 0"), modelOf("0 | 1 >= 0 | 0 = 0")
	for _, text := range goodFractions() {
		wantNone(t, "a good fraction", none, []string{"-1", text}, true)
		wantBest(t, "a good fraction", best, "0", []string{"0"}, []string{"0", text}, true)
		wantMeeting(t, "a good fraction", best, []string{text}, text[0] != '-')
		wantBest(t, "a good fraction", best, text, []string{"0"}, []string{"0", "0"}, text == "0")
	}
	for _, text := range noFractions() {
		wantNone(t, "no fraction", none, []string{"-1", text}, false)
		wantNone(t, "no fraction", none, []string{text, "0"}, false)
		wantBest(t, "no fraction", best, "0", []string{"0"}, []string{"0", text}, false)
		wantBest(t, "no fraction", best, "0", []string{text}, []string{"0", "0"}, false)
		wantBest(t, "no fraction", best, text, []string{"0"}, []string{"0", "0"}, false)
		wantMeeting(t, "no fraction", best, []string{text}, false)
	}
	// The same numbers, told in another way.
	half := modelOf("1 | 1 <= 0.5")
	wantBest(t, "a half", half, "1/2", []string{"1/2"}, []string{"1"}, true)
	for _, text := range []string{"2/4", "0.5", "+1/2", "01/2", "1/02", " 1/2", "5/10", "-1/-2", "1/2 ", "1/2/1"} {
		wantBest(t, "a half", half, text, []string{"1/2"}, []string{"1"}, false)
		wantBest(t, "a half", half, "1/2", []string{text}, []string{"1"}, false)
		wantMeeting(t, "a half", half, []string{text}, false)
	}
	for _, text := range []string{"1/1", "01", "+1", "1.0", "2/2", "1/01", "1 "} {
		wantBest(t, "one", half, "1/2", []string{"1/2"}, []string{text}, false)
	}
}

// TestLongFractions: the answers of models with the longest numbers are taken as they are told.
func TestLongFractions(t *testing.T) {
	// Each number is held back by a limit of its own, and all others stand in it with little coefs.
	dec := func(digits, exp int) impl.Dec { return impl.DecOf(digits, exp).Dec }
	m := impl.Model{}
	for i := range 8 {
		m.Goal = append(m.Goal, dec(999983-2*i, -6+i%3))
		l := impl.Limit{Op: "<=", Right: dec(999979-4*i, 6)}
		for j := range 8 {
			l.Coefs = append(l.Coefs, dec(100003+2*i*j+i, -6))
		}
		l.Coefs[i] = dec(999961-2*i, 5)
		m.Limits = append(m.Limits, l)
	}
	s := impl.Solve(m)
	_, proof := walkedSimplex(programOf(m))
	if s.Kind != 1 || len(s.Best) < 200 {
		t.Fatalf("%v is no long answer", s)
	}
	wantBest(t, "long numbers", m, s.Best, s.Point, fractionTexts(proof), true)
}
