package tests

import (
	"math/big"
	"math/rand"
	"regexp"
	"slices"
	"strings"
	"testing"
	"time"

	"loop.example/g00025/impl"
)

// The second way to what functions answer: each is told by exact fractions, by bytes and by cells one after the other,
// and an error is thrown as soon as it is met. It takes nothing from the program but the texts of decimals.

// orThrow throws errors.
func orThrow(v impl.Value) impl.Value {
	if isBad(v) {
		panic(v)
	}
	return v
}

func throwIf(is bool, v impl.Value) {
	if is {
		panic(v)
	}
}

// caught is what do answers, or throws.
func caught(do func() impl.Grid) (g impl.Grid) {
	defer func() {
		switch v := recover().(type) {
		case nil:
		case impl.Value:
			g = fullGrid(1, 1, v)
		default:
			panic(v)
		}
	}()
	return do()
}

func numOf(d impl.Dec) impl.Value { return impl.Value{Kind: impl.ValNum, Num: d} }

func countOf(n int) impl.Value { return numOf(wantPut(new(big.Rat).SetInt64(int64(n))).Dec) }

func truthOf(is bool) impl.Value {
	if is {
		return yes
	}
	return no
}

func numberOf(v impl.Value) impl.Value {
	orThrow(v)
	d, is := walkedNumber(v)
	throwIf(!is, notThis)
	return numOf(d)
}

func wholeOf(v impl.Value) int {
	r := ratOf(numberOf(v).Num)
	n := new(big.Int).Quo(r.Num(), r.Denom())
	throwIf(!n.IsInt64(), noNumber)
	return int(n.Int64())
}

func textOf(v impl.Value) string { return walkedText(orThrow(v)) }

func boolOf(v impl.Value) bool {
	orThrow(v)
	switch text := strings.ToUpper(v.Text); {
	case v.Kind == impl.ValNum:
		return ratOf(v.Num).Sign() != 0
	case v.Kind == impl.ValEmpty || text == "FALSE":
		return false
	case text == "TRUE":
		return true
	}
	panic(notThis)
}

func reckon(sign string, a, b impl.Value) impl.Value { return orThrow(walkedApply(sign, a, b)) }

// told is an argument's first cell; what stands for it where it is left out.
func told(args []impl.Grid, i int, leftOut string) impl.Value {
	if i < len(args) {
		return args[i].Cells[0]
	}
	return impl.TypedValue(leftOut)
}

// numbersIn throws the first error.
func numbersIn(grids ...impl.Grid) []impl.Value {
	var out []impl.Value
	for _, g := range grids {
		for _, v := range g.Cells {
			if orThrow(v).Kind == impl.ValNum {
				out = append(out, v)
			}
		}
	}
	return out
}

func added(numbers ...impl.Value) impl.Value {
	sum := numVal("0")
	for _, v := range numbers {
		sum = reckon("+", sum, v)
	}
	return sum
}

func mean(numbers []impl.Value) impl.Value {
	throwIf(len(numbers) == 0, byNought)
	return reckon("/", added(numbers...), countOf(len(numbers)))
}

func spread(numbers []impl.Value) impl.Value {
	throwIf(len(numbers) < 2, byNought)
	middle, sum := mean(numbers), numVal("0")
	for _, v := range numbers {
		off := reckon("-", v, middle)
		sum = reckon("+", sum, reckon("*", off, off))
	}
	return reckon("/", sum, countOf(len(numbers)-1))
}

// rankedBy has the numbers in order, put in one by one.
func rankedBy(numbers []impl.Value) []impl.Value {
	var out []impl.Value
	for _, v := range numbers {
		at := 0
		for at < len(out) && walkedOrder(out[at], v) < 0 {
			at++
		}
		out = slices.Insert(out, at, v)
	}
	return out
}

var walkedFolds = map[string]func(numbers []impl.Value) impl.Value{
	"SUM": func(numbers []impl.Value) impl.Value { return added(numbers...) },
	"PRODUCT": func(numbers []impl.Value) impl.Value {
		out := truthOf(len(numbers) > 0)
		for _, v := range numbers {
			out = reckon("*", out, v)
		}
		return numberOf(out)
	},
	"MIN": func(numbers []impl.Value) impl.Value {
		return append(rankedBy(numbers), numVal("0"))[0]
	},
	"MAX": func(numbers []impl.Value) impl.Value {
		in := append([]impl.Value{numVal("0")}, rankedBy(numbers)...)
		return in[len(in)-1]
	},
	"AVERAGE": mean,
	"MEDIAN": func(numbers []impl.Value) impl.Value {
		throwIf(len(numbers) == 0, noNumber)
		in, n := rankedBy(numbers), len(numbers)
		if n%2 == 1 {
			return in[n/2]
		}
		return reckon("/", reckon("+", in[n/2-1], in[n/2]), numVal("2"))
	},
	"SUMSQ": func(numbers []impl.Value) impl.Value {
		sum := numVal("0")
		for _, v := range numbers {
			sum = reckon("+", sum, reckon("*", v, v))
		}
		return sum
	},
	"VAR":   spread,
	"STDEV": func(numbers []impl.Value) impl.Value { return numOf(wantRoot(spread(numbers).Num).Dec) },
}

// walkedCounts: COUNT, COUNTA and COUNTBLANK.
var walkedCounts = map[string]*regexp.Regexp{"COUNT": regexp.MustCompile("^1"), "COUNTA": regexp.MustCompile("^[1-4]"), "COUNTBLANK": regexp.MustCompile("^[02]$")}

// walkedTruths: of how many that are TRUE, and how many in all.
var walkedTruths = map[string]func(yes, all int) bool{
	"AND": func(yes, all int) bool { return yes == all },
	"OR":  func(yes, all int) bool { return yes > 0 },
	"XOR": func(yes, all int) bool { return yes%2 == 1 },
}

// cellFunctions are asked with the values of one cell; what is left out is told by a second number.
var cellFunctions = map[string]func(v []impl.Value) impl.Value{
	"ABS": func(v []impl.Value) impl.Value {
		return numOf(wantPut(new(big.Rat).Abs(ratOf(numberOf(v[0]).Num))).Dec)
	},
	"SIGN":      func(v []impl.Value) impl.Value { return countOf(ratOf(numberOf(v[0]).Num).Sign()) },
	"INT":       func(v []impl.Value) impl.Value { return floored(numberOf(v[0])) },
	"ROUND":     func(v []impl.Value) impl.Value { return roundedTo(v, impl.RoundAway) },
	"ROUNDUP":   func(v []impl.Value) impl.Value { return roundedTo(v, impl.RoundUp) },
	"ROUNDDOWN": func(v []impl.Value) impl.Value { return roundedTo(v, impl.RoundDown) },
	"MOD": func(v []impl.Value) impl.Value {
		x, y := numberOf(v[0]), numberOf(v[1])
		return reckon("-", x, reckon("*", y, floored(reckon("/", x, y))))
	},
	"QUOTIENT": func(v []impl.Value) impl.Value {
		r := ratOf(reckon("/", numberOf(v[0]), numberOf(v[1])).Num)
		return numOf(wantPut(new(big.Rat).SetInt(new(big.Int).Quo(r.Num(), r.Denom()))).Dec)
	},
	"POWER": func(v []impl.Value) impl.Value { return reckon("^", numberOf(v[0]), numberOf(v[1])) },
	"SQRT": func(v []impl.Value) impl.Value {
		x := numberOf(v[0])
		throwIf(x.Num.Neg, noNumber)
		return numOf(wantRoot(x.Num).Dec)
	},
	"LEN": func(v []impl.Value) impl.Value { return countOf(len([]byte(textOf(v[0])))) },
	"LEFT": func(v []impl.Value) impl.Value {
		return cutOut(v[0], v[1], func(at, n, all int) bool { return at < n })
	},
	"RIGHT": func(v []impl.Value) impl.Value {
		return cutOut(v[0], v[1], func(at, n, all int) bool { return at >= all-n })
	},
	"MID": func(v []impl.Value) impl.Value {
		text, place, n := textOf(v[0]), wholeOf(v[1]), wholeOf(v[2])
		throwIf(place < 1 || n < 0, notThis)
		out := ""
		for at, b := range []byte(text) {
			if at+1 >= place && at+1-place < n {
				out += string(rune(b))
			}
		}
		return wordsVal(out)
	},
	"UPPER": func(v []impl.Value) impl.Value { return otherLetters(v[0], 'a', 'A') },
	"LOWER": func(v []impl.Value) impl.Value { return otherLetters(v[0], 'A', 'a') },
	"TRIM": func(v []impl.Value) impl.Value {
		return wordsVal(regexp.MustCompile(" +").ReplaceAllString(strings.Trim(textOf(v[0]), " "), " "))
	},
	"FIND": func(v []impl.Value) impl.Value {
		what, text, place := textOf(v[0]), textOf(v[1]), wholeOf(v[2])
		for at := place; at >= 1 && at <= len(text)+1; at++ {
			if strings.HasPrefix(text[at-1:], what) {
				return countOf(at)
			}
		}
		panic(notThis)
	},
	"SUBSTITUTE": putInstead,
	"REPT": func(v []impl.Value) impl.Value {
		text, n := textOf(v[0]), wholeOf(v[1])
		throwIf(n < 0, notThis)
		out := ""
		for i := 0; i < n && text != ""; i++ {
			out += text
			throwIf(len(out) > 1000, notThis)
		}
		return wordsVal(out)
	},
	"EXACT": func(v []impl.Value) impl.Value { return truthOf(textOf(v[0]) == textOf(v[1])) },
	"VALUE": func(v []impl.Value) impl.Value { return numberOf(wordsVal(textOf(v[0]))) },
	"NOT":   func(v []impl.Value) impl.Value { return truthOf(!boolOf(v[0])) },
	"DATE": func(v []impl.Value) impl.Value {
		year, month, day := wholeOf(v[0]), wholeOf(v[1]), wholeOf(v[2])
		throwIf(year < -5000 || year > 9999 || month < -99999 || month > 100000 || max(day, -day) > 3000000, noNumber)
		first := time.Date(year, time.Month(month), 1, 0, 0, 0, 0, time.UTC)
		throwIf(first.Year() < -5000 || first.Year() > 9999, noNumber)
		return dayValue(first.AddDate(0, 0, day-1))
	},
	"YEAR":  func(v []impl.Value) impl.Value { return countOf(onDay(v[0]).Year()) },
	"MONTH": func(v []impl.Value) impl.Value { return countOf(int(onDay(v[0]).Month())) },
	"DAY":   func(v []impl.Value) impl.Value { return countOf(onDay(v[0]).Day()) },
	"WEEKDAY": func(v []impl.Value) impl.Value {
		return countOf((int(onDay(v[0]).Weekday())+6)%7 + 1)
	},
	"EDATE": func(v []impl.Value) impl.Value {
		wholeOf(v[0])
		months := wholeOf(v[1])
		from := onDay(v[0])
		throwIf(max(months, -months) > 100000, noNumber)
		to := time.Date(from.Year(), from.Month()+time.Month(months), from.Day(), 0, 0, 0, 0, time.UTC)
		for to.Day() < from.Day() && to.Day() < 5 {
			to = to.AddDate(0, 0, -1)
		}
		return dayValue(to)
	},
}

var dayZero = time.Date(2000, 1, 1, 0, 0, 0, 0, time.UTC)

func dayValue(at time.Time) impl.Value {
	day := int(at.Unix()-dayZero.Unix()) / 86400
	throwIf(max(day, -day) > 1000000, noNumber)
	return countOf(day)
}

func onDay(v impl.Value) time.Time {
	day := wholeOf(v)
	throwIf(max(day, -day) > 1000000, noNumber)
	return dayZero.AddDate(0, 0, day)
}

func floored(v impl.Value) impl.Value {
	r := ratOf(v.Num)
	n := new(big.Int).Div(r.Num(), r.Denom())
	return numOf(wantPut(new(big.Rat).SetInt(n)).Dec)
}

func roundedTo(v []impl.Value, mode int) impl.Value {
	x, places := numberOf(v[0]), wholeOf(v[1])
	throwIf(max(places, -places) > 300, noNumber)
	r := wantRound(x.Num, places, mode)
	throwIf(!r.Ok, noNumber)
	return numOf(r.Dec)
}

func cutOut(text, many impl.Value, keep func(at, n, all int) bool) impl.Value {
	from, n := textOf(text), wholeOf(many)
	throwIf(n < 0, notThis)
	out := ""
	for at, b := range []byte(from) {
		if keep(at, n, len(from)) {
			out += string(rune(b))
		}
	}
	return wordsVal(out)
}

func otherLetters(v impl.Value, from, to byte) impl.Value {
	out := []byte(textOf(v))
	for i, b := range out {
		if b >= from && b < from+26 {
			out[i] = b - from + to
		}
	}
	return wordsVal(string(out))
}

// putInstead goes through the text byte by byte; a which of 0 stands for one that is left out.
func putInstead(v []impl.Value) impl.Value {
	text, what, by := textOf(v[0]), textOf(v[1]), textOf(v[2])
	which := 0
	if len(v) > 3 {
		which = wholeOf(v[3])
		throwIf(which < 1, notThis)
	}
	out, seen := "", 0
	for at := 0; at < len(text); at++ {
		if what != "" && strings.HasPrefix(text[at:], what) {
			seen++
			if which == 0 || which == seen {
				out += by
			} else {
				out += what
			}
			at += len(what) - 1
			continue
		}
		out += text[at : at+1]
	}
	throwIf(len(out) > 1000, notThis)
	return wordsVal(out)
}

// leftOut: what stands for the arguments of cell functions that are left out.
var leftOut = map[string][]string{"LEFT": {"", "1"}, "RIGHT": {"", "1"}, "FIND": {"", "", "1"}}

// walkedCells asks for each cell.
func walkedCells(name string, args []impl.Grid) impl.Grid {
	rows, cols := 0, 0
	for _, g := range args {
		rows, cols = max(rows, g.Rows), max(cols, g.Cols)
	}
	throwIf(rows*cols > 2000, notThis)
	out := fullGrid(rows, cols, noCell)
	for i := range out.Cells {
		var values []impl.Value
		for _, g := range args {
			if v := stretched(g, rows, cols)[i/cols][i%cols]; v != nil {
				values = append(values, *v)
			}
		}
		if len(values) < len(args) {
			continue
		}
		out.Cells[i] = caught(func() impl.Grid {
			for _, v := range values {
				orThrow(v)
			}
			for at := len(values); at < len(leftOut[name]); at++ {
				values = append(values, impl.TypedValue(leftOut[name][at]))
			}
			return fullGrid(1, 1, cellFunctions[name](values))
		}).Cells[0]
	}
	return out
}

var kindTests = map[string]int{"ISNUMBER": impl.ValNum, "ISTEXT": impl.ValText, "ISLOGICAL": impl.ValBool, "ISBLANK": impl.ValEmpty, "ISERROR": impl.ValErr}

func rowOf(g impl.Grid, row int) []impl.Value { return g.Cells[row*g.Cols : (row+1)*g.Cols] }

// rowsGrid has rows that are told one by one.
func rowsGrid(rows ...[]impl.Value) impl.Grid {
	throwIf(len(rows) == 0 || len(rows)*len(rows[0]) > 2000, notThis)
	return impl.Grid{Rows: len(rows), Cols: len(rows[0]), Cells: slices.Concat(rows...)}
}

func allRows(g impl.Grid) [][]impl.Value {
	var out [][]impl.Value
	for row := range g.Rows {
		out = append(out, rowOf(g, row))
	}
	return out
}

func columnOf(g impl.Grid, col int) []impl.Value {
	var out []impl.Value
	for _, row := range allRows(g) {
		out = append(out, row[col])
	}
	return out
}

// matchedAt asks of every beginning of the list whether it is in order, the longest first; places from 1 on.
func matchedAt(what impl.Value, list []impl.Value, mode int) int {
	for n := len(list); mode != 0 && n > 0; n-- {
		var ahead []impl.Value
		for _, v := range list[:n] {
			if !isBad(v) {
				ahead = append(ahead, v)
			}
		}
		inOrder := !isBad(list[n-1])
		for i, v := range ahead {
			inOrder = inOrder && walkedOrder(v, what)*mode <= 0 && (i == 0 || walkedOrder(ahead[i-1], v)*mode <= 0)
		}
		if inOrder {
			return n
		}
	}
	for i, v := range list {
		if mode == 0 && !isBad(v) && walkedOrder(v, what) == 0 {
			return i + 1
		}
	}
	panic(noCell)
}

// sortsAhead says whether a stands ahead of b in SORT.
func sortsAhead(a, b impl.Value, order int) bool {
	last := map[int]int{impl.ValEmpty: 1, impl.ValErr: 2}
	if last[a.Kind] != last[b.Kind] {
		return last[a.Kind] < last[b.Kind]
	}
	return last[a.Kind] == 0 && walkedOrder(a, b)*order < 0
}

func sameCells(a, b impl.Value) bool {
	return a.Kind == b.Kind && (isBad(a) && a == b || !isBad(a) && walkedOrder(a, b) == 0)
}

// walkedMeets is Meets by the marks of the outcomes that a sign has.
func walkedMeets(v impl.Value, op string, by impl.Value) bool {
	outcome := "?"
	switch {
	case isBad(v) && isBad(by):
		outcome = map[bool]string{true: "same", false: "other"}[v == by]
	case isBad(v):
		outcome = "nothing"
	case isBad(by):
		outcome = "other"
	default:
		for _, w := range []*impl.Value{&v, &by} {
			if w.Kind == impl.ValEmpty {
				*w = wordsVal("")
			}
		}
		outcome = "other"
		if v.Kind == by.Kind {
			outcome = []string{"less", "equal", "more"}[walkedOrder(v, by)+1]
		}
	}
	return slices.Contains(map[string][]string{
		"=": {"same", "equal"}, "<>": {"other", "less", "more"}, "<": {"less"}, ">": {"more"}, "<=": {"less", "equal"}, ">=": {"more", "equal"},
	}[op], outcome)
}

var criterionForm = regexp.MustCompile(`^(<>|<=|>=|=|<|>|)(.*)$`)

func criterionOf(v impl.Value) (string, impl.Value) {
	if v.Kind != impl.ValText {
		return "=", v
	}
	parts := criterionForm.FindStringSubmatch(v.Text)
	if parts[1] == "" {
		parts[1] = "="
	}
	return parts[1], walkedTyped(parts[2])
}

var gridFunctions = map[string]func(args []impl.Grid) impl.Grid{
	"INDEX": func(args []impl.Grid) impl.Grid {
		g, row, col := args[0], wholeOf(told(args, 1, "")), wholeOf(told(args, 2, "0"))
		if len(args) == 2 && g.Rows == 1 {
			row, col = 1, row
		}
		throwIf(row < 0 || col < 0, notThis)
		throwIf(row > g.Rows || col > g.Cols, errVal("#REF!"))
		var out [][]impl.Value
		for i, line := range allRows(g) {
			var kept []impl.Value
			for j, v := range line {
				if (row == 0 || row == i+1) && (col == 0 || col == j+1) {
					kept = append(kept, v)
				}
			}
			if kept != nil {
				out = append(out, kept)
			}
		}
		return rowsGrid(out...)
	},
	"MATCH": func(args []impl.Grid) impl.Grid {
		what, mode := orThrow(told(args, 0, "")), wholeOf(told(args, 2, "1"))
		throwIf(mode < -1 || mode > 1, notThis)
		throwIf(min(args[1].Rows, args[1].Cols) > 1, noCell)
		return fullGrid(1, 1, countOf(matchedAt(what, args[1].Cells, mode)))
	},
	"VLOOKUP": func(args []impl.Grid) impl.Grid {
		what, col, mode := orThrow(told(args, 0, "")), wholeOf(told(args, 2, "")), 0
		if boolOf(told(args, 3, "TRUE")) {
			mode = 1
		}
		throwIf(col < 1, notThis)
		throwIf(col > args[1].Cols, errVal("#REF!"))
		return fullGrid(1, 1, rowOf(args[1], matchedAt(what, columnOf(args[1], 0), mode)-1)[col-1])
	},
	"CHOOSE": func(args []impl.Grid) impl.Grid {
		n := wholeOf(told(args, 0, ""))
		for i, g := range args {
			if i > 0 && i == n {
				return g
			}
		}
		panic(notThis)
	},
	"ROWS":    func(args []impl.Grid) impl.Grid { return fullGrid(1, 1, countOf(args[0].Rows)) },
	"COLUMNS": func(args []impl.Grid) impl.Grid { return fullGrid(1, 1, countOf(args[0].Cols)) },
	"TRANSPOSE": func(args []impl.Grid) impl.Grid {
		var out [][]impl.Value
		for col := range args[0].Cols {
			out = append(out, columnOf(args[0], col))
		}
		return rowsGrid(out...)
	},
	"MMULT": func(args []impl.Grid) impl.Grid {
		a, b := args[0], args[1]
		for _, v := range slices.Concat(a.Cells, b.Cells) {
			throwIf(v.Kind != impl.ValNum, notThis)
		}
		throwIf(a.Cols != b.Rows || a.Rows*b.Cols > 2000, notThis)
		out := fullGrid(a.Rows, b.Cols, empty)
		for i := range out.Cells {
			out.Cells[i] = caught(func() impl.Grid {
				sum := numVal("0")
				for j, v := range columnOf(b, i%b.Cols) {
					sum = reckon("+", sum, reckon("*", rowOf(a, i/b.Cols)[j], v))
				}
				return fullGrid(1, 1, sum)
			}).Cells[0]
		}
		return out
	},
	"SEQUENCE": func(args []impl.Grid) impl.Grid {
		rows, cols := wholeOf(told(args, 0, "")), wholeOf(told(args, 1, "1"))
		first, step := numberOf(told(args, 2, "1")), numberOf(told(args, 3, "1"))
		throwIf(rows < 1 || cols < 1 || rows > 2000 || cols > 2000 || rows*cols > 2000, notThis)
		out := fullGrid(rows, cols, empty)
		for i := range out.Cells {
			out.Cells[i] = walkedApply("+", first, walkedApply("*", step, countOf(i)))
		}
		return out
	},
	"SORT": func(args []impl.Grid) impl.Grid {
		col, order := wholeOf(told(args, 1, "1")), wholeOf(told(args, 2, "1"))
		throwIf(col < 1 || col > args[0].Cols || order*order != 1, notThis)
		var out [][]impl.Value
		for _, row := range allRows(args[0]) {
			at := len(out)
			for at > 0 && sortsAhead(row[col-1], out[at-1][col-1], order) {
				at--
			}
			out = slices.Insert(out, at, row)
		}
		return rowsGrid(out...)
	},
	"UNIQUE": func(args []impl.Grid) impl.Grid {
		var out [][]impl.Value
		for _, row := range allRows(args[0]) {
			if !slices.ContainsFunc(out, func(ahead []impl.Value) bool { return slices.EqualFunc(ahead, row, sameCells) }) {
				out = append(out, row)
			}
		}
		return rowsGrid(out...)
	},
	"FILTER": func(args []impl.Grid) impl.Grid {
		throwIf(args[1].Cols > 1 || args[1].Rows != args[0].Rows, notThis)
		var out [][]impl.Value
		for i, row := range allRows(args[0]) {
			if boolOf(args[1].Cells[i]) {
				out = append(out, row)
			}
		}
		if len(out) > 0 {
			return rowsGrid(out...)
		}
		return append(args, fullGrid(1, 1, noCell))[2]
	},
	"HSTACK": func(args []impl.Grid) impl.Grid {
		rows, cols := 0, 0
		for _, g := range args {
			rows, cols = max(rows, g.Rows), cols+g.Cols
		}
		throwIf(rows*cols > 2000, notThis)
		out := make([][]impl.Value, rows)
		for _, g := range args {
			for i := range out {
				if i < g.Rows {
					out[i] = append(out[i], rowOf(g, i)...)
				} else {
					out[i] = append(out[i], slices.Repeat([]impl.Value{noCell}, g.Cols)...)
				}
			}
		}
		return rowsGrid(out...)
	},
	"VSTACK": func(args []impl.Grid) impl.Grid {
		cols := 0
		for _, g := range args {
			cols = max(cols, g.Cols)
		}
		var out [][]impl.Value
		for _, g := range args {
			for _, row := range allRows(g) {
				out = append(out, append(slices.Clone(row), slices.Repeat([]impl.Value{noCell}, cols-g.Cols)...))
			}
		}
		return rowsGrid(out...)
	},
	"TAKE": func(args []impl.Grid) impl.Grid { return partRows(args, true) },
	"DROP": func(args []impl.Grid) impl.Grid { return partRows(args, false) },
	"COUNTIF": func(args []impl.Grid) impl.Grid {
		op, by := criterionOf(orThrow(told(args, 1, "")))
		n := 0
		for _, v := range args[0].Cells {
			if walkedMeets(v, op, by) {
				n++
			}
		}
		return fullGrid(1, 1, countOf(n))
	},
	"SUMIF":     func(args []impl.Grid) impl.Grid { return overMet(args, "SUM") },
	"AVERAGEIF": func(args []impl.Grid) impl.Grid { return overMet(args, "AVERAGE") },
	"NETWORKDAYS": func(args []impl.Grid) impl.Grid {
		from, to := wholeOf(told(args, 0, "")), wholeOf(told(args, 1, ""))
		var free []int
		if len(args) > 2 {
			for _, v := range numbersIn(args[2]) {
				free = append(free, wholeOf(v))
			}
		}
		throwIf(max(from, -from) > 1000000 || max(to, -to) > 1000000 || len(free) > 1000, noNumber)
		return fullGrid(1, 1, countOf(walkedWorkdays(from, to, free)))
	},
	"NPV": func(args []impl.Grid) impl.Grid {
		rate := numberOf(told(args, 0, ""))
		sum := numVal("0")
		for i, v := range numbersIn(args[1:]...) {
			sum = reckon("+", sum, reckon("/", v, reckon("^", reckon("+", numVal("1"), rate), countOf(i+1))))
		}
		return fullGrid(1, 1, sum)
	},
	"FV": func(args []impl.Grid) impl.Grid {
		rate, many, paid := moneyTerms(args)
		if rate == numVal("0") {
			return fullGrid(1, 1, reckon("*", paid, countOf(many)))
		}
		grown := reckon("^", reckon("+", numVal("1"), rate), countOf(many))
		return fullGrid(1, 1, reckon("/", reckon("*", paid, reckon("-", grown, numVal("1"))), rate))
	},
	"PMT": func(args []impl.Grid) impl.Grid {
		rate, many, paid := moneyTerms(args)
		if rate == numVal("0") {
			return fullGrid(1, 1, reckon("/", paid, countOf(many)))
		}
		upper := reckon("*", paid, rate)
		shrunk := reckon("^", reckon("+", numVal("1"), rate), countOf(-many))
		return fullGrid(1, 1, reckon("/", upper, reckon("-", numVal("1"), shrunk)))
	},
	"LARGE": func(args []impl.Grid) impl.Grid { return rankedAt(args, -1) },
	"SMALL": func(args []impl.Grid) impl.Grid { return rankedAt(args, 1) },
	"RANK": func(args []impl.Grid) impl.Grid {
		x, in := numberOf(told(args, 0, "")), numbersIn(args[1])
		order := -1
		if boolOf(told(args, 2, "FALSE")) {
			order = 1
		}
		throwIf(!slices.Contains(in, x), noCell)
		place := 1
		for _, v := range in {
			if walkedOrder(v, x) == -order {
				place++
			}
		}
		return fullGrid(1, 1, countOf(place))
	},
	"CONCAT": func(args []impl.Grid) impl.Grid { return joinedUp(args, "", false) },
	"TEXTJOIN": func(args []impl.Grid) impl.Grid {
		return joinedUp(args[2:], textOf(told(args, 0, "")), boolOf(told(args, 1, "")))
	},
}

func partRows(args []impl.Grid, take bool) impl.Grid {
	n := wholeOf(told(args, 1, ""))
	var out [][]impl.Value
	for i, row := range allRows(args[0]) {
		first := i < n || n < 0 && i-args[0].Rows >= n
		if first == take {
			out = append(out, row)
		}
	}
	return rowsGrid(out...)
}

func overMet(args []impl.Grid, fold string) impl.Grid {
	op, by := criterionOf(orThrow(told(args, 1, "")))
	from := slices.Insert(slices.Clone(args), 2, args[0])
	last := from[len(from)-1]
	throwIf(last.Rows != args[0].Rows || last.Cols != args[0].Cols, notThis)
	var met []impl.Value
	for i, v := range args[0].Cells {
		if walkedMeets(v, op, by) {
			met = append(met, last.Cells[i])
		}
	}
	return fullGrid(1, 1, walkedFolds[fold](numbersIn(impl.Grid{Cells: met})))
}

func moneyTerms(args []impl.Grid) (impl.Value, int, impl.Value) {
	rate, many, paid := numberOf(args[0].Cells[0]), wholeOf(args[1].Cells[0]), numberOf(args[2].Cells[0])
	throwIf(many < 1 || many > 1000, noNumber)
	return rate, many, reckon("*", paid, numVal("-1"))
}

func rankedAt(args []impl.Grid, order int) impl.Grid {
	in, k := rankedBy(numbersIn(args[0])), wholeOf(told(args, 1, ""))
	throwIf(k < 1 || k > len(in), noNumber)
	if order < 0 {
		slices.Reverse(in)
	}
	return fullGrid(1, 1, in[k-1])
}

func joinedUp(grids []impl.Grid, between string, noEmpty bool) impl.Grid {
	var parts []string
	for _, g := range grids {
		for _, v := range g.Cells {
			if text := textOf(v); text != "" || !noEmpty {
				parts = append(parts, text)
			}
			throwIf(len(strings.Join(parts, between)) > 1000, notThis)
		}
	}
	return fullGrid(1, 1, wordsVal(strings.Join(parts, between)))
}

// walkedCall is what a function answers at good grids of as many as it takes.
func walkedCall(name string, args []impl.Grid) impl.Grid {
	return caught(func() impl.Grid {
		if fold, is := walkedFolds[name]; is {
			return fullGrid(1, 1, fold(numbersIn(args...)))
		}
		if form, is := walkedCounts[name]; is {
			n := 0
			for _, g := range args {
				for _, v := range g.Cells {
					if form.MatchString(string(rune('0'+v.Kind)) + v.Text) {
						n++
					}
				}
			}
			return fullGrid(1, 1, countOf(n))
		}
		if says, is := walkedTruths[name]; is {
			trues, all := 0, 0
			for _, g := range args {
				for _, v := range g.Cells {
					if orThrow(v).Kind != impl.ValNum && v.Kind != impl.ValBool {
						continue
					}
					all++
					if boolOf(v) {
						trues++
					}
				}
			}
			throwIf(all == 0, notThis)
			return fullGrid(1, 1, truthOf(says(trues, all)))
		}
		if kind, is := kindTests[name]; is || name == "ISNA" {
			out := fullGrid(args[0].Rows, args[0].Cols, no)
			for i, v := range args[0].Cells {
				out.Cells[i] = truthOf(is && v.Kind == kind || !is && v == noCell)
			}
			return out
		}
		if _, is := cellFunctions[name]; is {
			return walkedCells(name, args)
		}
		return gridFunctions[name](args)
	})
}

// plausible is a value that functions often ask for.
func plausible(random *rand.Rand) impl.Value {
	switch random.Intn(8) {
	case 0:
		return truthOf(random.Intn(2) == 0)
	case 1:
		return wordsVal([]string{"a", "ab", "b", "ba", "aa", " a  b ", "=1", "<>a", ">=0", "<3", ">", "=", "1", "true"}[random.Intn(14)])
	case 2:
		return numOf(impl.DecOf(random.Intn(4001)-2000, -random.Intn(3)).Dec)
	case 3:
		return randomGood(random)
	}
	return countOf(random.Intn(7) - 2)
}

func plausibleGrid(random *rand.Rand) impl.Grid {
	g := impl.Grid{Rows: 1, Cols: 1}
	if random.Intn(2) == 0 {
		g.Rows, g.Cols = 1+random.Intn(4), 1+random.Intn(3)
	}
	one := plausible(random)
	for range g.Rows * g.Cols {
		switch random.Intn(4) {
		case 0:
			g.Cells = append(g.Cells, plausible(random))
		case 1:
			g.Cells = append(g.Cells, countOf(random.Intn(9)-2))
		default:
			g.Cells = append(g.Cells, one)
		}
	}
	return g
}

func checkCall(t *testing.T, name string, args []impl.Grid) {
	t.Helper()
	var was []impl.Grid
	for _, g := range args {
		was = append(was, impl.Grid{Rows: g.Rows, Cols: g.Cols, Cells: slices.Clone(g.Cells)})
	}
	got := impl.CallFunction(name, args)
	if !slices.EqualFunc(args, was, sameGrids) {
		t.Fatalf("%s wrote into its arguments %v", name, was)
	}
	if want := walkedCall(name, was); !sameGrids(got, want) || !impl.GoodGrid(got) {
		t.Errorf("%s of %v is %v, want %v", name, args, got, want)
	}
}

// checkFunctions asks every function, with some more arguments than it takes at least.
func checkFunctions(t *testing.T, times int, grid func(random *rand.Rand) impl.Grid) {
	eachRandom(t, times, func(t *testing.T, random *rand.Rand) {
		counted(func(name string, least, most int) {
			var args []impl.Grid
			for range least + random.Intn(min(most, least+3)-least+1) {
				args = append(args, grid(random))
			}
			checkCall(t, name, args)
		})
	})
}

func TestRandomCalls(t *testing.T) { checkFunctions(t, 150, plausibleGrid) }

// TestRandomSingles has one cell an argument: there errors and what is left out come to count.
func TestRandomSingles(t *testing.T) {
	checkFunctions(t, 150, func(random *rand.Rand) impl.Grid {
		if random.Intn(4) == 0 {
			return fullGrid(1, 1, randomGood(random))
		}
		return fullGrid(1, 1, plausible(random))
	})
}

// TestRandomGrids has grids whose cells are any good ones.
func TestRandomGrids(t *testing.T) {
	checkFunctions(t, 20, func(random *rand.Rand) impl.Grid {
		return randomGrid(random, 1+random.Intn(4), 1+random.Intn(4))
	})
}

// TestRandomLists: long lists of few values, in order or not, for those that search, sort and filter.
func TestRandomLists(t *testing.T) {
	eachRandom(t, 150, func(t *testing.T, random *rand.Rand) {
		list := fullGrid(1+random.Intn(12), 1, empty)
		for i := range list.Cells {
			list.Cells[i] = countOf(random.Intn(6))
			if random.Intn(6) == 0 {
				list.Cells[i] = plausible(random)
			}
			if random.Intn(12) == 0 {
				list.Cells[i] = noCell
			}
		}
		if random.Intn(2) == 0 {
			list = walkedCall("SORT", []impl.Grid{list, gridOf("1"), fullGrid(1, 1, countOf(random.Intn(2)*2-1))})
		}
		wide := walkedCall("HSTACK", []impl.Grid{list, walkedCall("SEQUENCE", []impl.Grid{fullGrid(1, 1, countOf(list.Rows))})})
		what, more := fullGrid(1, 1, plausible(random)), fullGrid(1, 1, countOf(random.Intn(4)-1))
		for _, c := range []struct {
			name string
			args []impl.Grid
		}{
			{"MATCH", []impl.Grid{what, list}}, {"MATCH", []impl.Grid{what, list, more}}, {"MATCH", []impl.Grid{what, walkedCall("TRANSPOSE", []impl.Grid{list}), more}}, {"VLOOKUP", []impl.Grid{what, wide, gridOf("2")}}, {"VLOOKUP", []impl.Grid{what, wide, gridOf("2"), more}},
			{"SORT", []impl.Grid{wide}}, {"SORT", []impl.Grid{wide, gridOf("1"), more}}, {"UNIQUE", []impl.Grid{list}}, {"FILTER", []impl.Grid{wide, list}}, {"FILTER", []impl.Grid{wide, list, what}}, {"TAKE", []impl.Grid{wide, what}}, {"DROP", []impl.Grid{wide, what}}, {"INDEX", []impl.Grid{wide, what}}, {"INDEX", []impl.Grid{wide, what, more}},
			{"COUNTIF", []impl.Grid{list, what}}, {"SUMIF", []impl.Grid{list, what}}, {"AVERAGEIF", []impl.Grid{list, what, list}}, {"LARGE", []impl.Grid{list, what}}, {"SMALL", []impl.Grid{list, what}}, {"RANK", []impl.Grid{what, list}}, {"RANK", []impl.Grid{what, list, more}}, {"MEDIAN", []impl.Grid{list}}, {"VAR", []impl.Grid{list, what}}, {"NETWORKDAYS", []impl.Grid{what, gridOf("9"), list}},
		} {
			checkCall(t, c.name, c.args)
		}
	})
}

// TestEveryPairMeets holds Meets and Criterion against the marks of outcomes, for all pairs of edges.
func TestEveryPairMeets(t *testing.T) {
	for _, v := range goodValues() {
		op, by := impl.Criterion(v)
		if wantOp, wantBy := criterionOf(v); op != wantOp || by != wantBy {
			t.Errorf("Criterion(%v) = %s, %v, want %s, %v", v, op, by, wantOp, wantBy)
		}
		for _, by := range goodValues() {
			for _, op := range sixSigns {
				if got := impl.Meets(v, op, by); got != walkedMeets(v, op, by) {
					t.Errorf("Meets(%v, %s, %v) = %v", v, op, by, got)
				}
			}
		}
	}
	eachText("=<>1a'#", 4, func(text string) {
		op, by := impl.Criterion(wordsVal(text))
		if wantOp, wantBy := criterionOf(wordsVal(text)); op != wantOp || by != wantBy {
			t.Errorf("Criterion(%s) = %s, %v, want %s, %v", text, op, by, wantOp, wantBy)
		}
	})
}

// TestAnyCalls has any arguments, good or not: the answer is a good grid, and nothing is written.
func TestAnyCalls(t *testing.T) {
	names := append(impl.FunctionNames(), noFunctions...)
	eachRandom(t, 4000, func(t *testing.T, random *rand.Rand) {
		name := names[random.Intn(len(names))]
		var args, was []impl.Grid
		for range random.Intn(6) {
			g := plausibleGrid(random)
			if random.Intn(8) == 0 {
				g = anyGrid(random)
			}
			args = append(args, g)
			was = append(was, impl.Grid{Rows: g.Rows, Cols: g.Cols, Cells: slices.Clone(g.Cells)})
		}
		got := impl.CallFunction(name, args)
		least, most := impl.ArgCount(name)
		switch bad := slices.ContainsFunc(args, func(g impl.Grid) bool { return !impl.GoodGrid(g) }); {
		case most == 0:
			wantSingle(t, name, args, got, noSign)
		case bad || len(args) < least || len(args) > most:
			wantSingle(t, name, args, got, notThis)
		}
		if !impl.GoodGrid(got) || !slices.EqualFunc(args, was, sameGrids) {
			t.Errorf("%s of %v is %v", name, was, got)
		}
		v, by := anyValue(random), anyValue(random)
		op, crit := impl.Criterion(v)
		if !impl.GoodValue(crit) || impl.GoodValue(v) != slices.Contains(sixSigns, op) {
			t.Errorf("Criterion(%v) = %s, %v", v, op, crit)
		}
		if impl.Meets(v, sixSigns[random.Intn(6)], by) && !(impl.GoodValue(v) && impl.GoodValue(by)) {
			t.Errorf("%v meets %v", v, by)
		}
	})
}

// TestDatesOfAnyYears puts years, months and days together, near their ends too.
func TestDatesOfAnyYears(t *testing.T) {
	near := func(random *rand.Rand, ends ...int) impl.Grid {
		return fullGrid(1, 1, countOf(ends[random.Intn(len(ends))]+random.Intn(5)-2))
	}
	eachRandom(t, 1500, func(t *testing.T, random *rand.Rand) {
		any := random.Intn(3000000)
		checkCall(t, "DATE", []impl.Grid{near(random, -5000, 9999, 2000, random.Intn(15000)-5000), near(random, -99999, 100000, 1, 12, random.Intn(200)-100), near(random, -3000000, 3000000, 1, 31, any, -any)})
		checkCall(t, "EDATE", []impl.Grid{near(random, 1000000, -1000000, 0, 30, 59, random.Intn(2000000)-1000000), near(random, -100000, 100000, 1, 12, random.Intn(1000)-500)})
		for _, name := range []string{"YEAR", "MONTH", "DAY", "WEEKDAY"} {
			checkCall(t, name, []impl.Grid{near(random, 1000000, -1000000, 0, 60, random.Intn(2000000)-1000000)})
		}
	})
}
