package tests

import (
	"fmt"
	"math/big"
	"math/rand"
	"regexp"
	"slices"
	"strings"
	"testing"

	"loop.example/g00025/impl"
)

// The second ways to what models come to: all corners, one by one, and for more numbers the usual tableau of fractions
// in two phases, which has the proofs, too.

type ratRow struct {
	coefs []*big.Rat
	op    string
	right *big.Rat
}

type program struct {
	goal []*big.Rat
	rows []ratRow
}

func ratsOf(list []impl.Dec) []*big.Rat {
	var out []*big.Rat
	for _, d := range list {
		out = append(out, ratOf(d))
	}
	return out
}

func programOf(m impl.Model) program {
	p := program{goal: ratsOf(m.Goal)}
	for _, l := range m.Limits {
		p.rows = append(p.rows, ratRow{ratsOf(l.Coefs), l.Op, ratOf(l.Right)})
	}
	return p
}

// with is the program with one limit more.
func (p program) with(r ratRow) program {
	return program{p.goal, append(slices.Clone(p.rows), r)}
}

func wholeRat(n int) *big.Rat { return new(big.Rat).SetInt64(int64(n)) }

// unitRow holds one of many numbers against another one.
func unitRow(many, at int, op string, right *big.Rat) ratRow {
	r := ratRow{op: op, right: right}
	for i := range many {
		r.coefs = append(r.coefs, wholeRat(boolNumber(i == at)))
	}
	return r
}

func boolNumber(is bool) int {
	if is {
		return 1
	}
	return 0
}

func dot(a, b []*big.Rat) *big.Rat {
	sum := new(big.Rat)
	for i := range a {
		sum.Add(sum, new(big.Rat).Mul(a[i], b[i]))
	}
	return sum
}

func (p program) keeps(x []*big.Rat) bool {
	for _, v := range x {
		if v.Sign() < 0 {
			return false
		}
	}
	for _, r := range p.rows {
		order := dot(r.coefs, x).Cmp(r.right)
		if order < 0 && r.op != "<=" || order > 0 && r.op != ">=" {
			return false
		}
	}
	return true
}

// crossing is the one point at which as many rows as there are numbers are just met; nil where there is no such one.
func crossing(rows []ratRow) []*big.Rat {
	many := len(rows)
	var lines [][]*big.Rat
	for _, r := range rows {
		var line []*big.Rat
		for _, v := range append(slices.Clone(r.coefs), r.right) {
			line = append(line, new(big.Rat).Set(v))
		}
		lines = append(lines, line)
	}
	for col := range many {
		at := slices.IndexFunc(lines[col:], func(line []*big.Rat) bool { return line[col].Sign() != 0 })
		if at < 0 {
			return nil
		}
		lines[col], lines[col+at] = lines[col+at], lines[col]
		clearColumn(lines, col, col)
	}
	var x []*big.Rat
	for _, line := range lines {
		x = append(x, line[many])
	}
	return x
}

// clearColumn makes a column 1 in one line and 0 in the others.
func clearColumn(lines [][]*big.Rat, at, col int) {
	by := new(big.Rat).Inv(lines[at][col])
	for _, v := range lines[at] {
		v.Mul(v, by)
	}
	for i, line := range lines {
		if times := new(big.Rat).Set(line[col]); i != at && times.Sign() != 0 {
			for j, v := range line {
				v.Sub(v, new(big.Rat).Mul(times, lines[at][j]))
			}
		}
	}
}

// corners are all points that keep the limits and just meet as many of them as there are numbers.
func (p program) corners() [][]*big.Rat {
	many := len(p.goal)
	planes := slices.Clone(p.rows)
	for i := range many {
		planes = append(planes, unitRow(many, i, ">=", new(big.Rat)))
	}
	var out [][]*big.Rat
	var choose func(from int, chosen []ratRow)
	choose = func(from int, chosen []ratRow) {
		if len(chosen) == many {
			if x := crossing(chosen); x != nil && p.keeps(x) {
				out = append(out, x)
			}
			return
		}
		for i := from; i < len(planes); i++ {
			choose(i+1, append(slices.Clip(chosen), planes[i]))
		}
	}
	choose(0, nil)
	return out
}

// hasNoEnd is whether there is a way to go on for ever that makes the sum greater: one keeps the limits of rights 0.
func (p program) hasNoEnd() bool {
	ways := program{goal: p.goal}
	for _, r := range p.rows {
		ways.rows = append(ways.rows, ratRow{r.coefs, r.op, new(big.Rat)})
	}
	all := ratRow{op: "=", right: wholeRat(1)}
	for range p.goal {
		all.coefs = append(all.coefs, wholeRat(1))
	}
	return slices.ContainsFunc(ways.with(all).corners(), func(d []*big.Rat) bool { return dot(p.goal, d).Sign() > 0 })
}

func compareRats(a, b []*big.Rat) int { return slices.CompareFunc(a, b, (*big.Rat).Cmp) }

// byCorners is what a program comes to, with its best point.
func (p program) byCorners() (int, []*big.Rat) {
	var best []*big.Rat
	for _, x := range p.corners() {
		order := 1
		if best != nil {
			order = dot(p.goal, x).Cmp(dot(p.goal, best))
		}
		if order > 0 || order == 0 && compareRats(x, best) < 0 {
			best = x
		}
	}
	switch {
	case best == nil:
		return 2, nil
	case p.hasNoEnd():
		return 3, nil
	}
	return 1, best
}

func ratText(r *big.Rat) string { return strings.TrimSuffix(r.String(), "/1") }

func fractionTexts(list []*big.Rat) []string {
	var out []string
	for _, r := range list {
		out = append(out, ratText(r))
	}
	return out
}

func (p program) mark(kind int, point []*big.Rat) string {
	s := impl.Solution{Kind: kind, Point: fractionTexts(point)}
	if kind == 1 {
		s.Best = ratText(dot(p.goal, point))
	}
	return solutionMark(s)
}

// simplex has a line for each limit, with columns for the numbers, for what is left of the limits, for helping numbers
// that are 1 in their own limit alone, and for the right sides; in a line its own column is 1.
type simplex struct {
	lines   [][]*big.Rat
	own     []int
	signs   []*big.Rat
	helping int
}

func simplexOf(p program) *simplex {
	many, limits := len(p.goal), len(p.rows)
	s := &simplex{helping: many + limits}
	for i, r := range p.rows {
		sign := wholeRat(1 - 2*boolNumber(r.right.Sign() < 0))
		var line []*big.Rat
		for range many + 2*limits + 1 {
			line = append(line, new(big.Rat))
		}
		for j, c := range r.coefs {
			line[j].Mul(sign, c)
		}
		line[many+i].Mul(sign, wholeRat(boolNumber(r.op == "<=")-boolNumber(r.op == ">=")))
		line[s.helping+i].SetInt64(1)
		line[s.helping+limits].Mul(sign, r.right)
		s.lines, s.own, s.signs = append(s.lines, line), append(s.own, s.helping+i), append(s.signs, sign)
	}
	return s
}

// along is what a column comes to by what each line's own column is worth.
func (s *simplex) along(worth []*big.Rat, col int) *big.Rat {
	sum := new(big.Rat)
	for i, line := range s.lines {
		sum.Add(sum, new(big.Rat).Mul(worth[s.own[i]], line[col]))
	}
	return sum
}

// climb goes from corner to corner, by the first column that is worth more and the line that ends it first; false where
// none ends it.
func (s *simplex) climb(worth []*big.Rat) bool {
	right := len(worth)
	for {
		col := 0
		for col < s.helping && worth[col].Cmp(s.along(worth, col)) <= 0 {
			col++
		}
		if col == s.helping {
			return true
		}
		at, least := -1, new(big.Rat)
		for i, line := range s.lines {
			if line[col].Sign() > 0 {
				room := new(big.Rat).Quo(line[right], line[col])
				if order := room.Cmp(least); at < 0 || order < 0 || order == 0 && s.own[i] < s.own[at] {
					at, least = i, room
				}
			}
		}
		if at < 0 {
			return false
		}
		clearColumn(s.lines, at, col)
		s.own[at] = col
	}
}

// proof has for each limit how often it is taken.
func (s *simplex) proof(worth []*big.Rat) []*big.Rat {
	var out []*big.Rat
	for i, sign := range s.signs {
		out = append(out, new(big.Rat).Mul(sign, s.along(worth, s.helping+i)))
	}
	return out
}

// dropHelping has no line keep a helping column where it has another one.
func (s *simplex) dropHelping() {
	for i, line := range s.lines {
		col := slices.IndexFunc(line[:s.helping], func(v *big.Rat) bool { return v.Sign() != 0 })
		if s.own[i] >= s.helping && col >= 0 {
			clearColumn(s.lines, i, col)
			s.own[i] = col
		}
	}
}

// walkedSimplex is what a program comes to, and a proof of it.
func walkedSimplex(p program) (int, []*big.Rat) {
	s := simplexOf(p)
	var worth, goal []*big.Rat
	for j := range s.helping + len(p.rows) {
		worth, goal = append(worth, wholeRat(-boolNumber(j >= s.helping))), append(goal, new(big.Rat))
	}
	copy(goal, p.goal)
	s.climb(worth)
	if s.along(worth, len(worth)).Sign() < 0 {
		return 2, s.proof(worth)
	}
	s.dropHelping()
	if !s.climb(goal) {
		return 3, nil
	}
	return 1, s.proof(goal)
}

// lexPoint is the best point: the greatest sum is made a limit, then the least first number, and so on.
func lexPoint(p program) []*big.Rat {
	var x []*big.Rat
	many := len(p.goal)
	for i := range many + 1 {
		_, proof := walkedSimplex(p)
		best := new(big.Rat)
		for j, r := range p.rows {
			best.Add(best, new(big.Rat).Mul(proof[j], r.right))
		}
		p = p.with(ratRow{p.goal, "=", best})
		if i > 0 {
			x = append(x, new(big.Rat).Neg(best))
		}
		if i < many {
			p.goal = unitRow(many, i, "", nil).coefs
			p.goal[i].SetInt64(-1)
		}
	}
	return x
}

var fractionForm = regexp.MustCompile(`^(-?[1-9][0-9]{0,199}|0)(/[1-9][0-9]{0,199})?$`)

func walkedFraction(text string) (*big.Rat, bool) {
	if !fractionForm.MatchString(text) {
		return nil, false
	}
	r, ok := new(big.Rat).SetString(text)
	return r, ok && ratText(r) == text
}

func walkedFractions(list []string, many int) ([]*big.Rat, bool) {
	var out []*big.Rat
	for _, text := range list {
		r, ok := walkedFraction(text)
		if !ok {
			return nil, false
		}
		out = append(out, r)
	}
	return out, len(out) == many
}

func walkedGoodModel(m impl.Model) bool {
	numbers := slices.Clone(m.Goal)
	good := len(m.Goal) >= 1 && len(m.Goal) <= 8 && len(m.Limits) <= 12 && (len(m.Whole) == 0 || len(m.Whole) == len(m.Goal))
	for _, l := range m.Limits {
		good = good && len(l.Coefs) == len(m.Goal) && slices.Contains([]string{"<=", ">=", "="}, l.Op)
		numbers = append(append(numbers, l.Coefs...), l.Right)
	}
	for _, d := range numbers {
		good = good && impl.GoodDec(d) && d.Digits <= 999999 && d.Exp >= -6 && d.Exp <= 6
	}
	return good
}

// proves is whether so much of each limit comes to at least a sum for each number; right is what comes of the right sides.
func (p program) proves(y, sum []*big.Rat) (right *big.Rat, ok bool) {
	right, ok = new(big.Rat), true
	parts := make([]*big.Rat, len(sum))
	for j := range parts {
		parts[j] = new(big.Rat).Neg(sum[j])
	}
	for i, r := range p.rows {
		ok = ok && !(r.op == "<=" && y[i].Sign() < 0) && !(r.op == ">=" && y[i].Sign() > 0)
		right.Add(right, new(big.Rat).Mul(y[i], r.right))
		for j, c := range r.coefs {
			parts[j].Add(parts[j], new(big.Rat).Mul(y[i], c))
		}
	}
	for _, part := range parts {
		ok = ok && part.Sign() >= 0
	}
	return right, ok
}

func walkedCheckBest(m impl.Model, best string, point, proof []string) bool {
	if !walkedGoodModel(m) {
		return false
	}
	p := programOf(m)
	most, ok := walkedFraction(best)
	x, okPoint := walkedFractions(point, len(p.goal))
	y, okProof := walkedFractions(proof, len(p.rows))
	if !ok || !okPoint || !okProof {
		return false
	}
	right, proven := p.proves(y, p.goal)
	return proven && p.keeps(x) && dot(p.goal, x).Cmp(most) == 0 && right.Cmp(most) == 0
}

func walkedCheckNone(m impl.Model, proof []string) bool {
	if !walkedGoodModel(m) {
		return false
	}
	p := programOf(m)
	y, ok := walkedFractions(proof, len(p.rows))
	if !ok {
		return false
	}
	right, proven := p.proves(y, ratsOf(make([]impl.Dec, len(p.goal))))
	return proven && right.Sign() < 0
}

func walkedMeeting(m impl.Model, point []string) bool {
	if !walkedGoodModel(m) {
		return false
	}
	x, ok := walkedFractions(point, len(m.Goal))
	return ok && programOf(m).keeps(x)
}

// walkedWhole goes the way: what it comes to, and how many models are solved; -1 where there would be more than most.
func walkedWhole(p program, whole []bool, most int) (string, int) {
	var found []*big.Rat
	solved := 0
	for list := []program{p}; len(list) > 0; {
		if solved == most {
			return "too many", -1
		}
		next := list[0]
		list = list[1:]
		solved++
		kind, point := next.byCorners()
		if kind == 3 {
			return "no end", solved
		}
		if kind == 2 || found != nil && dot(p.goal, point).Cmp(dot(p.goal, found)) <= 0 {
			continue
		}
		at := 0
		for at < len(point) && (len(whole) == 0 || !whole[at] || point[at].IsInt()) {
			at++
		}
		if at == len(point) {
			found = point
			continue
		}
		floor := new(big.Rat).SetInt(new(big.Int).Quo(point[at].Num(), point[at].Denom()))
		low := next.with(unitRow(len(point), at, "<=", floor))
		high := next.with(unitRow(len(point), at, ">=", new(big.Rat).Add(floor, wholeRat(1))))
		list = append([]program{low, high}, list...)
	}
	if found == nil {
		return "none", solved
	}
	return p.mark(1, found), solved
}

// model is one of small numbers, of which many come to the same.
func (c composer) model(numbers, limits int) impl.Model {
	coef := func() impl.Dec {
		return numVal(c.pick("0", "0", "0", "1", "1", "1", "2", "3", "-1", "-1", "-2", "0.5", "-0.5", "1.5", "0.3", "7", "-3")).Num
	}
	row := func() []impl.Dec {
		var out []impl.Dec
		for range numbers {
			out = append(out, coef())
		}
		return out
	}
	m := impl.Model{Goal: row()}
	for range limits {
		l := impl.Limit{Coefs: row(), Op: c.pick("<=", "<=", "<=", ">=", ">=", "="), Right: numVal(c.pick("0", "0", "1", "2", "3", "4", "6", "10", "-1", "-2", "-4", "0.5", "2.5")).Num}
		if len(m.Limits) > 0 && c.Intn(8) == 0 {
			l.Coefs = slices.Clone(m.Limits[c.Intn(len(m.Limits))].Coefs)
		}
		m.Limits = append(m.Limits, l)
	}
	switch {
	case c.Intn(10) == 0:
		m.Goal = make([]impl.Dec, numbers)
	case limits > 0 && c.Intn(4) == 0:
		m.Goal = slices.Clone(m.Limits[c.Intn(limits)].Coefs)
	}
	return m
}

// kindly makes most of a model's limits such that numbers keep them, and that hold the numbers back.
func (c composer) kindly(m impl.Model) impl.Model {
	for i := range m.Limits {
		l := &m.Limits[i]
		if c.Intn(4) > 0 {
			l.Right.Neg = false
			l.Op = "<="
		}
		for j := range l.Coefs {
			if c.Intn(5) > 0 {
				l.Coefs[j].Neg = false
			}
		}
	}
	return m
}

func toldModel(m impl.Model) string {
	tell := func(list []impl.Dec) string {
		var out []string
		for _, d := range list {
			out = append(out, impl.DecText(d))
		}
		return strings.Join(out, " ")
	}
	out := tell(m.Goal)
	for _, l := range m.Limits {
		out += " | " + tell(l.Coefs) + " " + l.Op + " " + impl.DecText(l.Right)
	}
	return fmt.Sprint(out, " ", m.Whole)
}

// TestRandomModels holds small models against all of their corners.
func TestRandomModels(t *testing.T) {
	eachRandom(t, 500, func(t *testing.T, random *rand.Rand) {
		c := composer{Rand: random}
		m := c.model(1+random.Intn(3), random.Intn(5))
		if random.Intn(2) == 0 {
			m = c.kindly(m)
		}
		p := programOf(m)
		wantSolved(t, toldModel(m), m, p.mark(p.byCorners()))
	})
}

// TestSmallModels: all models of two numbers, small coefs and one limit, alone and with another one.
func TestSmallModels(t *testing.T) {
	small := []string{"-1", "0", "2"}
	for _, goal := range []string{"0 0", "1 1", "-1 -1", "1 -1", "-1 1", "0 1", "1 0", "0 -1", "-2 -1", "2 1"} {
		for i := range 9 {
			for _, op := range []string{"<=", ">=", "="} {
				for _, right := range small {
					for _, more := range []string{"", " | 1 1 <= 3", " | 1 1 >= 3", " | 1 -1 = 1"} {
						text := goal + " | " + small[i/3] + " " + small[i%3] + " " + op + " " + right + more
						m := modelOf(text)
						p := programOf(m)
						wantSolved(t, text, m, p.mark(p.byCorners()))
					}
				}
			}
		}
	}
}

// checkProven asks for a proof of what a model comes to, and that it is taken.
func checkProven(t *testing.T, m impl.Model) impl.Solution {
	t.Helper()
	s := impl.Solve(m)
	kind, proof := walkedSimplex(programOf(m))
	if s.Kind != kind {
		t.Errorf("%s\n is of kind %d, want %d", toldModel(m), s.Kind, kind)
	}
	texts := fractionTexts(proof)
	switch kind {
	case 1:
		wantBest(t, toldModel(m), m, s.Best, s.Point, texts, true)
		if !walkedCheckBest(m, s.Best, s.Point, texts) {
			t.Errorf("%s\n %s is not proven by %v", toldModel(m), solutionMark(s), texts)
		}
	case 2:
		wantNone(t, toldModel(m), m, texts, true)
	}
	return s
}

// TestRandomProofs: there is a proof of each best point and of having none, for models of all sizes.
func TestRandomProofs(t *testing.T) {
	eachRandom(t, 60, func(t *testing.T, random *rand.Rand) {
		c := composer{Rand: random}
		m := c.model(1+random.Intn(8), random.Intn(13))
		if random.Intn(3) > 0 {
			m = c.kindly(m)
		}
		if s := checkProven(t, m); s.Kind == 1 && len(m.Goal) <= 5 {
			if want := fractionTexts(lexPoint(programOf(m))); !slices.Equal(s.Point, want) {
				t.Errorf("%s\n has the point %v, want %v", toldModel(m), s.Point, want)
			}
		}
	})
}

// TestRandomLongNumbers: models of numbers of six digits and any Exp.
func TestRandomLongNumbers(t *testing.T) {
	eachRandom(t, 5, func(t *testing.T, random *rand.Rand) {
		c := composer{Rand: random}
		long := func() impl.Dec {
			d := impl.DecOf(1+random.Intn(999999), random.Intn(13)-6).Dec
			d.Exp = min(d.Exp, 6)
			d.Neg = random.Intn(3) == 0
			return d
		}
		m := c.model(1+random.Intn(8), random.Intn(13))
		for i := range m.Goal {
			m.Goal[i] = long()
		}
		for _, l := range m.Limits {
			for j := range l.Coefs {
				l.Coefs[j] = long()
			}
			if random.Intn(3) > 0 {
				l.Right = long()
			}
		}
		if random.Intn(3) > 0 {
			m = c.kindly(m)
		}
		checkProven(t, m)
	})
}

// someFractions are texts near some numbers, at times such that are none.
func (c composer) someFractions(near []string, many int) []string {
	out := slices.Clone(near)
	for len(out) < many {
		out = append(out, c.pick("0", "1", "-1", "1/2", "-1/2", "2", "3", "3/2", "-2", "1/3"))
	}
	for range c.Intn(3) {
		if len(out) > 0 {
			out[c.Intn(len(out))] = c.pick("0", "0", "1", "-1", "1/2", "-1/2", "2", "3", "3/2", "-2", "1/3", "4", "10", "2/4", "1/1", "-0", "", "1/0")
		}
	}
	if len(out) > 0 && c.Intn(15) == 0 {
		out = out[1:]
	}
	if c.Intn(15) == 0 {
		out = append(out, "0")
	}
	return out
}

// TestRandomChecks: what is taken is what the second way takes, and only if it is true.
func TestRandomChecks(t *testing.T) {
	eachRandom(t, 400, func(t *testing.T, random *rand.Rand) {
		c := composer{Rand: random}
		m := c.model(1+random.Intn(3), random.Intn(5))
		s := impl.Solve(m)
		_, y := walkedSimplex(programOf(m))
		best := s.Best
		if best == "" || random.Intn(6) == 0 {
			best = c.pick("0", "1", "2", "-1", "3/2", "-4", "10", "2/4", "")
		}
		for range 4 {
			point, proof := c.someFractions(s.Point, len(m.Goal)), c.someFractions(fractionTexts(y), len(m.Limits))
			taken, none := walkedCheckBest(m, best, point, proof), walkedCheckNone(m, proof)
			wantBest(t, toldModel(m), m, best, point, proof, taken)
			wantNone(t, toldModel(m), m, proof, none)
			wantMeeting(t, toldModel(m), m, point, walkedMeeting(m, point))
			if taken && (s.Kind != 1 || s.Best != best) || none && s.Kind != 2 {
				t.Errorf("%s\n comes to %s, but %s, %v and %v are taken", toldModel(m), solutionMark(s), best, point, proof)
			}
		}
	})
}

// TestAllSmallProofs: of all small proofs of one model those are taken that prove something, and some are.
func TestAllSmallProofs(t *testing.T) {
	values := []string{"-2", "-1", "-1/2", "0", "1/2", "1", "2", "2/2"}
	for _, text := range []string{"1 | 1 <= 4 | 2 >= 3", "-1 | 1 <= 4 | 2 >= 2", "1 | 1 = 1 | 1 = 2", "1 | 1 >= 2 | 1 <= 1", "1 | -1 >= -2 | 1 = 1", "0 | 1 <= -1 | 1 >= -2", "1 | 2 = 2 | -1 <= 1"} {
		m := modelOf(text)
		s := impl.Solve(m)
		taken := 0
		for _, a := range values {
			for _, b := range values {
				proof := []string{a, b}
				wantNone(t, text, m, proof, walkedCheckNone(m, proof))
				taken += boolNumber(impl.CheckNone(m, proof))
				for _, x := range append(values, "3", "4") {
					for _, best := range append(values, "3", "4") {
						wantBest(t, text, m, best, []string{x}, proof, walkedCheckBest(m, best, []string{x}, proof))
						is := impl.CheckBest(m, best, []string{x}, proof)
						taken += boolNumber(is)
						if is && (s.Kind != 1 || s.Best != best) {
							t.Errorf("%s comes to %s, and %s is taken", text, solutionMark(s), best)
						}
					}
				}
			}
		}
		if taken == 0 {
			t.Errorf("no proof is taken of %s", text)
		}
	}
}

// TestRandomWhole holds the way against one that solves each model by its corners.
func TestRandomWhole(t *testing.T) {
	eachRandom(t, 120, func(t *testing.T, random *rand.Rand) {
		c := composer{Rand: random}
		m := c.kindly(c.model(1+random.Intn(3), 1+random.Intn(3)))
		for range m.Goal {
			m.Whole = append(m.Whole, random.Intn(4) > 0)
		}
		if random.Intn(20) == 0 {
			m.Whole = nil
		}
		most := 15
		want, need := walkedWhole(programOf(m), m.Whole, most)
		if need < 0 {
			wantWhole(t, toldModel(m), m, most, "too many")
			return
		}
		wantWhole(t, toldModel(m), m, need, want)
		wantWhole(t, toldModel(m), m, 200, want)
		if need > 1 {
			wantWhole(t, toldModel(m), m, need-1, "too many")
		}
	})
}

// TestWholeInBoxes holds the best of whole numbers against all of those that are at most 4.
func TestWholeInBoxes(t *testing.T) {
	eachRandom(t, 100, func(t *testing.T, random *rand.Rand) {
		c := composer{Rand: random}
		m := c.model(1+random.Intn(4), random.Intn(4))
		many := len(m.Goal)
		m.Whole = slices.Repeat([]bool{true}, many)
		for i := range many {
			m.Limits = append(m.Limits, impl.Limit{Coefs: make([]impl.Dec, many), Op: "<=", Right: numVal("4.5").Num})
			m.Limits[len(m.Limits)-1].Coefs[i] = countOf(1).Num
		}
		p := programOf(m)
		var best *big.Rat
		for n := range []int{1, 5, 25, 125, 625}[many] {
			var x []*big.Rat
			for range many {
				x = append(x, wholeRat(n%5))
				n /= 5
			}
			if sum := dot(p.goal, x); p.keeps(x) && (best == nil || sum.Cmp(best) > 0) {
				best = sum
			}
		}
		s := impl.SolveWhole(m, 200)
		switch {
		case best == nil && s.Kind != 2 || best != nil && (s.Kind != 1 || s.Best != ratText(best)):
			t.Errorf("%s\n comes to %s, want %v", toldModel(m), solutionMark(s), best)
		case best != nil && (!impl.Meeting(m, s.Point) || strings.Contains(strings.Join(s.Point, ""), "/")):
			t.Errorf("%s\n comes to %v", toldModel(m), s.Point)
		}
	})
}

// anyModel is at times good.
func anyModel(c composer) impl.Model {
	m := c.model(c.Intn(10), c.Intn(15))
	for range c.Intn(3) {
		d := impl.Dec{Neg: c.Intn(2) == 0, Digits: int(c.Uint64()), Exp: farNumbers[c.Intn(len(farNumbers))]}
		if c.Intn(2) == 0 {
			d = randomDec(c.Rand, 10)
		}
		at := c.Intn(len(m.Limits) + 1)
		switch {
		case c.Intn(2) == 0:
			m.Whole = make([]bool, c.Intn(10))
		case at == len(m.Limits):
			m.Goal = append(m.Goal, d)
		case c.Intn(3) == 0:
			m.Limits[at].Right = d
		case c.Intn(3) == 0:
			m.Limits[at].Op = c.pick(anyOps...)
		case len(m.Limits[at].Coefs) > 0:
			m.Limits[at].Coefs[0] = d
		}
	}
	return m
}

// TestAnyModels: whatever they are given, the functions answer, and write nothing.
func TestAnyModels(t *testing.T) {
	eachRandom(t, 250, func(t *testing.T, random *rand.Rand) {
		c := composer{Rand: random}
		m := anyModel(c)
		texts := append(noFractions(), goodFractions()...)
		anyTexts := func(many int) []string {
			out := c.someFractions(nil, many)
			if len(out) > 0 && c.Intn(2) == 0 {
				out[c.Intn(len(out))] = texts[c.Intn(len(texts))]
			}
			return out
		}
		good := walkedGoodModel(m)
		if impl.GoodModel(m) != good {
			t.Errorf("%v is good: %v", m, !good)
		}
		was := clonedModel(m)
		s, tried := impl.Solve(m), []int{1, 5, 40, noTries[c.Intn(len(noTries))]}[c.Intn(4)]
		whole := impl.SolveWhole(m, tried)
		if (s.Kind > 0) != good || (whole.Kind > 0) != (good && 1 <= tried && tried <= 200) || !sameModels(m, was) {
			t.Errorf("%v comes to %v and %v", m, s, whole)
		}
		best, point, proof := texts[c.Intn(len(texts))], anyTexts(len(m.Goal)), anyTexts(len(m.Limits))
		wantBest(t, m, m, best, point, proof, walkedCheckBest(m, best, point, proof))
		wantNone(t, m, m, proof, walkedCheckNone(m, proof))
		wantMeeting(t, m, m, point, walkedMeeting(m, point))
	})
}
