package tests

import (
	"go/ast"
	"go/parser"
	"go/token"
	"io/fs"
	"maps"
	"math/rand"
	"reflect"
	"slices"
	"strings"
	"testing"

	"loop.example/g00025/impl"
)

// everyFunction has all that the program hands out, chapter by chapter.
func everyFunction() map[string]any {
	return map[string]any{
		"GoodDec": impl.GoodDec, "DecOf": impl.DecOf, "DecAdd": impl.DecAdd, "DecSub": impl.DecSub, "DecMul": impl.DecMul, "DecDiv": impl.DecDiv, "DecCmp": impl.DecCmp, "DecPow": impl.DecPow, "DecSqrt": impl.DecSqrt, "DecRound": impl.DecRound, "DecInt": impl.DecInt, "DecText": impl.DecText, "ReadDec": impl.ReadDec,
		"LeapYear": impl.LeapYear, "MonthDays": impl.MonthDays, "DayOf": impl.DayOf, "DateOf": impl.DateOf, "Weekday": impl.Weekday, "WeekOf": impl.WeekOf, "AddMonths": impl.AddMonths, "Workdays": impl.Workdays, "DateText": impl.DateText, "ReadDate": impl.ReadDate,
		"ColName": impl.ColName, "ColNumber": impl.ColNumber, "GoodRef": impl.GoodRef, "RefText": impl.RefText, "ReadRef": impl.ReadRef, "RefTextBy": impl.RefTextBy, "ReadRefBy": impl.ReadRefBy, "GoodArea": impl.GoodArea, "Normal": impl.Normal, "Meet": impl.Meet, "Hull": impl.Hull, "Without": impl.Without,
		"GoodFormula": impl.GoodFormula, "ReadFormula": impl.ReadFormula, "FormulaText": impl.FormulaText, "ReadFormulaBy": impl.ReadFormulaBy, "FormulaTextBy": impl.FormulaTextBy, "UsedAreas": impl.UsedAreas, "UsedNames": impl.UsedNames,
		"GoodTurn": impl.GoodTurn, "TurnRef": impl.TurnRef, "TurnArea": impl.TurnArea, "TurnFormula": impl.TurnFormula, "Filled": impl.Filled, "MoveRef": impl.MoveRef, "MoveFormula": impl.MoveFormula, "BackTurn": impl.BackTurn,
		"GoodValue": impl.GoodValue, "GoodGrid": impl.GoodGrid, "NumberOf": impl.NumberOf, "TextOf": impl.TextOf, "BoolOf": impl.BoolOf, "Compare": impl.Compare, "Apply": impl.Apply, "ApplyGrid": impl.ApplyGrid, "ShowValue": impl.ShowValue, "TypedValue": impl.TypedValue,
		"FunctionNames": impl.FunctionNames, "ArgCount": impl.ArgCount, "CallFunction": impl.CallFunction, "Criterion": impl.Criterion, "Meets": impl.Meets,
		"GoodSheet": impl.GoodSheet, "EvalSheet": impl.EvalSheet, "EvalFormula": impl.EvalFormula, "ValueAt": impl.ValueAt,
		"Links": impl.Links, "InCycle": impl.InCycle, "Order": impl.Order, "WithChanges": impl.WithChanges, "Touched": impl.Touched, "Recalc": impl.Recalc, "Differ": impl.Differ,
		"ReadFormat": impl.ReadFormat, "FormatCode": impl.FormatCode, "ShowBy": impl.ShowBy,
		"SortRows": impl.SortRows, "FilterRows": impl.FilterRows, "Runs": impl.Runs, "Allowed": impl.Allowed, "Styles": impl.Styles,
		"GroupRows": impl.GroupRows, "FoldValues": impl.FoldValues, "GoodPivot": impl.GoodPivot, "PivotGrid": impl.PivotGrid, "Joined": impl.Joined,
		"GoodModel": impl.GoodModel, "Solve": impl.Solve, "SolveWhole": impl.SolveWhole, "CheckBest": impl.CheckBest, "CheckNone": impl.CheckNone, "Meeting": impl.Meeting, "SeekGoal": impl.SeekGoal,
		"ReadSeparated": impl.ReadSeparated, "SeparatedText": impl.SeparatedText, "SheetOfRows": impl.SheetOfRows, "RowsOfSheet": impl.RowsOfSheet, "PackSheet": impl.PackSheet, "UnpackSheet": impl.UnpackSheet, "Checksum": impl.Checksum,
		"GoodSteps": impl.GoodSteps, "AfterSteps": impl.AfterSteps, "Standing": impl.Standing, "LastUndo": impl.LastUndo, "LastRedo": impl.LastRedo, "MergeSheets": impl.MergeSheets, "DiffSheets": impl.DiffSheets,
		"GoodDo": impl.GoodDo, "Perform": impl.Perform, "Transform": impl.Transform, "TransformAll": impl.TransformAll, "Converged": impl.Converged, "Inverse": impl.Inverse,
		"Widths": impl.Widths, "Pages": impl.Pages, "CellField": impl.CellField, "PageLines": impl.PageLines, "Printed": impl.Printed,
		"CopyBlock": impl.CopyBlock, "MoveBlock": impl.MoveBlock, "SortBlock": impl.SortBlock, "RunMacro": impl.RunMacro, "MacroOf": impl.MacroOf,
	}
}

// TestEveryFunctionIsAsked holds everyFunction against the program's text.
func TestEveryFunctionIsAsked(t *testing.T) {
	packs, err := parser.ParseDir(token.NewFileSet(), "../impl", func(i fs.FileInfo) bool { return !strings.HasSuffix(i.Name(), "_test.go") }, 0)
	if err != nil {
		t.Fatal(err)
	}
	var names []string
	for _, file := range packs["impl"].Files {
		for _, d := range file.Decls {
			if f, is := d.(*ast.FuncDecl); is && f.Recv == nil && f.Name.IsExported() {
				names = append(names, f.Name.Name)
			}
		}
	}
	slices.Sort(names)
	if asked := slices.Sorted(maps.Keys(everyFunction())); !slices.Equal(asked, names) || len(names) < 100 {
		t.Errorf("%v is asked, there are %v", asked, names)
	}
}

// anyNumber is mostly a small one, or one near the bounds of something, or any.
func (c composer) anyNumber() int {
	switch c.Intn(16) {
	case 0:
		return farNumbers[c.Intn(len(farNumbers))]
	case 1:
		return int(c.Uint64())
	case 2, 3:
		near := []int{20, 30, 40, 50, 60, 100, 200, 300, 1000, 2000, 9999, -5000, 20000, 1000000, -1000000}
		return near[c.Intn(len(near))] + c.Intn(3) - 1
	case 4, 5:
		return c.Intn(300)
	case 6:
		return c.Intn(8) - 1
	}
	return 1 + c.Intn(4)
}

// anyText is a text of one of the kinds that functions read, now and then hurt, or any bytes.
func (c composer) anyText() string {
	text := ""
	switch c.Intn(8) {
	case 0:
		text = c.text(3)
	case 1:
		text = c.macro(c.quiet(), 6)
	case 2:
		text = c.quietText()
	case 3:
		text = c.pick("+", "<=", "<>", "&", ",", ";", "\t", "=", ">")
	case 4:
		text = c.pick("", "SUM", "IF", "ROUND", "FILTER", "nosuch", "TRUE", "#N/A", "'x", ">=3", "A", "GR", "a,\"b,c\"\n1;2\r\n")
	case 5:
		text = c.pick("A1", "$B$7", "GR1000", "R[-1]C3", "RC", "R2C$", "=SUM(R1C1:R[2]C)+RC", "12.5", "-1E-300", "1/2", "-7/3", "2024-02-29", "1999-12-19")
	case 6:
		text = c.code()
	}
	switch c.Intn(12) {
	case 0:
		wild := make([]byte, c.Intn(40))
		c.Read(wild)
		text += string(wild)
	case 1:
		text = strings.Repeat(text+c.pick("", "x", "\n", "-", "("), c.Intn(400))
	case 2:
		text = text[c.Intn(len(text)+1):]
	}
	return text
}

// kindlyValue is one of a type as it may mostly be; false where there is no such rule for it.
func (c composer) kindlyValue(t reflect.Type) (any, bool) {
	switch t {
	case reflect.TypeFor[impl.Sheet]():
		return c.quiet(), true
	case reflect.TypeFor[impl.Grid]():
		return c.likelyGrid(8, 4), true
	case reflect.TypeFor[impl.Value]():
		return likely(c.Rand), true
	case reflect.TypeFor[impl.Dec]():
		return randomDec(c.Rand, 1+c.Intn(20)), true
	case reflect.TypeFor[[]impl.Node]():
		return []impl.Node(manyRefs(c.Rand)), true
	case reflect.TypeFor[[]impl.Shown]():
		return impl.EvalSheet(c.quiet()), true
	case reflect.TypeFor[[]impl.Change]():
		return c.quietChanges(), true
	case reflect.TypeFor[[]impl.Format]():
		return []impl.Format(c.formats()), true
	case reflect.TypeFor[impl.Rule]():
		return c.rule(false), true
	case reflect.TypeFor[impl.Pivot]():
		return c.pivot(4), true
	case reflect.TypeFor[impl.Model]():
		m := c.model(1+c.Intn(4), c.Intn(5))
		m.Whole = []bool{true, c.Intn(2) == 0, true, false}[:len(m.Goal)]
		return m, true
	case reflect.TypeFor[[]impl.Step]():
		return c.steps(8), true
	case reflect.TypeFor[[]impl.Do]():
		return c.side(c.Intn(3), 8), true
	case reflect.TypeFor[[][]string]():
		return c.rows(), true
	case reflect.TypeFor[[]byte]():
		return impl.PackSheet(c.quiet()), true
	case reflect.TypeFor[[]string]():
		return c.someFractions(nil, c.Intn(4)), true
	case reflect.TypeFor[impl.Area]():
		return readArea(c.areaText()), true
	case reflect.TypeFor[impl.SortKey]():
		return impl.SortKey{Col: 1 + c.Intn(2), Down: c.Intn(2) == 0}, true
	case reflect.TypeFor[impl.Do]():
		return append(c.side(c.Intn(3), 3), impl.Do{})[0], true
	case reflect.TypeFor[impl.Date]():
		return impl.Date{Year: 1990 + c.Intn(30), Month: 1 + c.Intn(12), Day: 1 + c.Intn(31)}, true
	case reflect.TypeFor[impl.Turn]():
		return randomTurn(c.Rand), true
	case reflect.TypeFor[impl.Ref]():
		return nearRef(c.Rand), true
	}
	return nil, false
}

// wildValue is one of a type with any fields; false likewise.
func (c composer) wildValue(t reflect.Type) (any, bool) {
	switch t {
	case reflect.TypeFor[impl.Sheet]():
		return anySheet(c), true
	case reflect.TypeFor[impl.Grid]():
		return anyGrid(c.Rand), true
	case reflect.TypeFor[impl.Value]():
		return anyValue(c.Rand), true
	case reflect.TypeFor[[]impl.Step]():
		return anySteps(c), true
	case reflect.TypeFor[impl.Do]():
		return anyDo(c), true
	}
	return nil, false
}

// given is a value of any type: mostly as it may be, now and then any.
func (c composer) given(t reflect.Type) reflect.Value {
	made, is := c.kindlyValue(t)
	if c.Intn(5) == 0 {
		made, is = c.wildValue(t)
	}
	out := reflect.New(t).Elem()
	if is {
		out.Set(reflect.ValueOf(made))
		return out
	}
	switch t.Kind() {
	case reflect.Int:
		out.SetInt(int64(c.anyNumber()))
	case reflect.Uint8:
		out.SetUint(uint64(c.Intn(256)))
	case reflect.Bool:
		out.SetBool(c.Intn(2) == 0)
	case reflect.String:
		out.SetString(c.anyText())
	case reflect.Struct:
		for i := range t.NumField() {
			out.Field(i).Set(c.given(t.Field(i).Type))
		}
	case reflect.Slice:
		for range c.Intn(5) {
			out = reflect.Append(out, c.given(t.Elem()))
		}
	default:
		panic(t.String())
	}
	return out
}

// withRoom is a copy of a value of which each list has room behind it, in which something stands already.
func withRoom(v reflect.Value) reflect.Value {
	out := reflect.New(v.Type()).Elem()
	switch v.Kind() {
	case reflect.Struct:
		for i := range v.NumField() {
			out.Field(i).Set(withRoom(v.Field(i)))
		}
	case reflect.Slice:
		if v.IsNil() {
			return out
		}
		all := reflect.MakeSlice(v.Type(), v.Len()+3, v.Len()+3)
		for i := range v.Len() {
			all.Index(i).Set(withRoom(v.Index(i)))
		}
		for i := v.Len(); i < all.Len(); i++ {
			fillIn(all.Index(i))
		}
		out.Set(all.Slice(0, v.Len()))
	default:
		out.Set(v)
	}
	return out
}

func fillIn(v reflect.Value) {
	switch v.Kind() {
	case reflect.Int:
		v.SetInt(-77)
	case reflect.Uint8:
		v.SetUint(77)
	case reflect.Bool:
		v.SetBool(true)
	case reflect.String:
		v.SetString("room")
	case reflect.Struct:
		for i := range v.NumField() {
			fillIn(v.Field(i))
		}
	}
}

// memory is a list's, with the room behind it.
type memory struct{ from, to uintptr }

// eachList hands on all lists in a value, with the room behind them.
func eachList(v reflect.Value, visit func(list reflect.Value)) {
	switch v.Kind() {
	case reflect.Struct:
		for i := range v.NumField() {
			eachList(v.Field(i), visit)
		}
	case reflect.Slice:
		if v.Cap() == 0 {
			return
		}
		whole := v.Slice(0, v.Cap())
		visit(whole)
		for i := range whole.Len() {
			eachList(whole.Index(i), visit)
		}
	}
}

func memoryOf(values []reflect.Value) []memory {
	var out []memory
	for _, v := range values {
		eachList(v, func(list reflect.Value) {
			from := list.Pointer()
			out = append(out, memory{from, from + uintptr(list.Len())*list.Type().Elem().Size()})
		})
	}
	return out
}

func isShared(a, b []memory) bool {
	for i, x := range a {
		for j, y := range b {
			isItself := &a[0] == &b[0] && i == j
			if !isItself && x.from < y.to && y.from < x.to {
				return true
			}
		}
	}
	return false
}

// frozen is all that values have, with the room behind their lists.
func frozen(values []reflect.Value) []any {
	var out []any
	for _, v := range values {
		out = append(out, withRoom(v).Interface())
		eachList(v, func(list reflect.Value) { out = append(out, withRoom(list).Interface()) })
	}
	return out
}

func asked(t *testing.T, name string, f reflect.Value, args []reflect.Value) []reflect.Value {
	t.Helper()
	defer func() {
		if why := recover(); why != nil {
			t.Fatalf("%s(%.2000v): %v", name, toldValues(args), why)
		}
	}()
	return f.Call(args)
}

func toldValues(values []reflect.Value) []any {
	var out []any
	for _, v := range values {
		out = append(out, v.Interface())
	}
	return out
}

// checkAnswer asks a function twice: it answers the same, writes into nothing that it is given, nor behind it, and its
// answer shares no memory with that, nor do two lists of it. It says whether that is more than the zero answer.
func checkAnswer(t *testing.T, name string, f reflect.Value, args []reflect.Value) bool {
	t.Helper()
	var first, second []reflect.Value
	for _, arg := range args {
		first = append(first, withRoom(arg))
		second = append(second, withRoom(arg))
	}
	was := frozen(first)
	answer := asked(t, name, f, first)
	if !reflect.DeepEqual(frozen(first), was) {
		t.Fatalf("%s(%.2000v): it was written into", name, toldValues(args))
	}
	if again := asked(t, name, f, second); !reflect.DeepEqual(toldValues(again), toldValues(answer)) {
		t.Fatalf("%s(%.2000v)\n is %.500v\n and %.500v", name, toldValues(args), toldValues(answer), toldValues(again))
	}
	own := memoryOf(answer)
	if len(own) > 0 && (isShared(own, own) || isShared(own, append(memoryOf(first), memory{}))) {
		t.Fatalf("%s(%.2000v) is %.500v: memory is shared", name, toldValues(args), toldValues(answer))
	}
	return slices.ContainsFunc(answer, func(v reflect.Value) bool { return !v.IsZero() })
}

// TestEveryFunctionAnswers: promise 19.
func TestEveryFunctionAnswers(t *testing.T) {
	for name, asks := range everyFunction() {
		t.Run(name, func(t *testing.T) {
			t.Parallel()
			c, f := composer{Rand: rand.New(rand.NewSource(1))}, reflect.ValueOf(asks)
			told := 0
			for range 400 {
				var args []reflect.Value
				for i := range f.Type().NumIn() {
					args = append(args, c.given(f.Type().In(i)))
				}
				if checkAnswer(t, name, f, args) {
					told++
				}
			}
			// A proof is not come upon by chance.
			if told == 0 && name != "CheckBest" && name != "CheckNone" {
				t.Errorf("%s is never asked for more than the zero answer", name)
			}
		})
	}
}

// TestEveryFunctionAnswersAtNothing has the same numbers throughout, and lists of nothing and great ones.
func TestEveryFunctionAnswersAtNothing(t *testing.T) {
	for name, asks := range everyFunction() {
		t.Run(name, func(t *testing.T) {
			t.Parallel()
			f := reflect.ValueOf(asks)
			for _, many := range []int{-1, 0, 1, 3000} {
				for _, number := range append([]int{0, 1}, farNumbers...) {
					var args []reflect.Value
					for i := range f.Type().NumIn() {
						args = append(args, evenly(f.Type().In(i), many, number))
					}
					checkAnswer(t, name, f, args)
				}
			}
		})
	}
}

// evenly is a value all of whose numbers are the same; its lists have so many, none where that is below 0, but those
// within others none, and its texts as many bytes.
func evenly(t reflect.Type, many, number int) reflect.Value {
	out := reflect.New(t).Elem()
	switch t.Kind() {
	case reflect.Int:
		out.SetInt(int64(number))
	case reflect.String:
		out.SetString(strings.Repeat("=", max(many, 0)))
	case reflect.Struct:
		for i := range t.NumField() {
			out.Field(i).Set(evenly(t.Field(i).Type, many, number))
		}
	case reflect.Slice:
		if many < 0 {
			return out
		}
		out.Set(reflect.MakeSlice(t, many, many))
		for i := range many {
			out.Index(i).Set(evenly(t.Elem(), -1, number))
		}
	}
	return out
}
