package tests

import (
	"math/rand"
	"regexp"
	"slices"
	"strconv"
	"strings"
	"testing"

	"loop.example/g00025/impl"
)

var (
	numberForm  = regexp.MustCompile(`^[0-9]+(\.[0-9]+)?([Ee][+-]?([0-9]+))?`)
	quotedForm  = regexp.MustCompile(`^"(?:[^"]|"")*`)
	errorForm   = regexp.MustCompile(`(?i)^#(NULL!|DIV/0!|VALUE!|REF!|NAME\?|NUM!|N/A|SPILL!|CYCLE!)`)
	wordForm    = regexp.MustCompile(`^[A-Za-z0-9_.]*`)
	firstForm   = regexp.MustCompile(`^[A-Za-z0-9$]*`)
	secondForm  = regexp.MustCompile(`^(?:[A-Za-z0-9\]]|\[-?)*`)
	nameForm    = regexp.MustCompile(`^[A-Za-z_][A-Za-z0-9_.]{0,19}$`)
	noNameForm  = regexp.MustCompile(`^(TRUE|FALSE|R[0-9]*|R[0-9]*C[0-9]*|C[0-9]*)$`)
	operatorGot = regexp.MustCompile(`^(<=|>=|<>|<|>|=|&|\+|-|\*|/|\^)`)
	closeness   = map[string]int{"<=": 1, ">=": 1, "<>": 1, "<": 1, ">": 1, "=": 1, "&": 2, "+": 3, "-": 3, "*": 4, "/": 4, "^": 5, "minus": 6}
)

// frame is an expression that has been begun: at the top, in brackets or in a call.
type frame struct {
	kind     string
	name     string
	args     []nodes
	operands []nodes
	waiting  []string
}

// fold makes one operand of those that stand at least so close.
func (f *frame) fold(least int) {
	for len(f.waiting) > 0 && closeness[f.waiting[len(f.waiting)-1]] >= least {
		sign := f.waiting[len(f.waiting)-1]
		f.waiting = f.waiting[:len(f.waiting)-1]
		last := len(f.operands) - 1
		if sign == "minus" {
			f.operands[last] = minus(f.operands[last])
			continue
		}
		f.operands = append(f.operands[:last-1], op(sign, f.operands[last-1], f.operands[last]))
	}
}

func (f *frame) begun() bool { return len(f.operands)+len(f.waiting) > 0 }

// walker reads formulas with stacks of its own: what it answers is held against the program.
type walker struct {
	text   string
	at     int
	home   impl.Ref
	second bool
	stack  []*frame
}

func (w *walker) top() *frame { return w.stack[len(w.stack)-1] }

func (w *walker) blanks() byte {
	for w.at < len(w.text) && w.text[w.at] == ' ' {
		w.at++
	}
	if w.at == len(w.text) {
		return 0
	}
	return w.text[w.at]
}

// here: the part of the rest that has such a form, which is passed over.
func (w *walker) here(form *regexp.Regexp) string {
	got := form.FindString(w.text[w.at:])
	w.at += len(got)
	return got
}

func (w *walker) follows(signs string) bool {
	return w.at < len(w.text) && strings.ContainsRune(signs, rune(w.text[w.at]))
}

func (w *walker) address() (impl.Ref, bool) {
	begin := w.at
	var r impl.Ref
	var ok bool
	if w.second {
		r, ok = impl.ReadRefBy(strings.ToUpper(w.here(secondForm)), w.home.Row, w.home.Col)
	} else {
		r, ok = impl.ReadRef(strings.ToUpper(w.here(firstForm)))
	}
	if !ok || w.follows("_.") {
		w.at = begin
		return impl.Ref{}, false
	}
	return r, true
}

// literal: a number, a text or an error; false with at where it stands where it may not be.
func (w *walker) literal() (nodes, bool) {
	begin := w.at
	if s := w.here(numberForm); s != "" {
		n := impl.ReadDec(s)
		if power := numberForm.FindStringSubmatch(s)[3]; n.Ok && len(power) <= 4 {
			return one(impl.Node{Kind: impl.NodNum, Num: n.Dec}), true
		}
	} else if s := w.here(quotedForm); s != "" {
		inner := strings.ReplaceAll(s[1:], `""`, `"`)
		good := w.follows(`"`) && len(inner) <= 200 && strings.IndexFunc(inner, func(r rune) bool { return r < 32 || r > 126 }) < 0
		if w.at++; good {
			return words(inner), true
		}
	} else if s := w.here(errorForm); s != "" {
		return wrong(strings.ToUpper(s)), true
	}
	w.at = begin
	return nil, false
}

// array: the values between the brackets, cut row by row.
func (w *walker) array() (nodes, bool) {
	begin := w.at
	sizes := []int{0}
	var values []nodes
	for w.at++; ; w.at++ {
		below := w.blanks() == '-'
		if below {
			w.at++
			w.blanks()
		}
		v, ok := w.value(below)
		if !ok {
			return nil, false
		}
		values = append(values, v)
		sizes[len(sizes)-1]++
		b := w.blanks()
		if b == ',' {
			continue
		}
		if sizes[len(sizes)-1] != sizes[0] {
			break
		}
		if b == ';' {
			sizes = append(sizes, 0)
			continue
		}
		if b != '}' {
			return nil, false
		}
		if w.at++; len(sizes) > 20 || len(values) > 100 {
			break
		}
		return array(len(sizes), values...), true
	}
	w.at = begin
	return nil, false
}

func (w *walker) value(below bool) (nodes, bool) {
	begin := w.at
	v, ok := w.literal()
	switch {
	case ok && below && v[0].Kind == impl.NodNum:
		return minus(v), true
	case ok && !below:
		return v, true
	case !ok && !below:
		if big := strings.ToUpper(w.here(wordForm)); big == "TRUE" || big == "FALSE" {
			return truth(big), true
		}
	}
	w.at = begin
	return nil, false
}

// named: an address, a bool or a name; a call is begun by it, and there is no operand yet.
func (w *walker) named() (nodes, bool) {
	begin := w.at
	if from, ok := w.address(); ok {
		if w.follows("(") {
			w.at = begin
			return nil, false
		}
		if !w.follows(":") {
			return refTo(from), true
		}
		w.at++
		to, ok := w.address()
		return areaOf(from, to), ok
	}
	word := w.here(wordForm)
	big := strings.ToUpper(word)
	if big == "TRUE" || big == "FALSE" {
		return truth(big), true
	}
	if _, isRef := impl.ReadRef(big); isRef || !nameForm.MatchString(word) || noNameForm.MatchString(big) {
		w.at = begin
		return nil, false
	}
	if w.blanks() != '(' {
		return name(word), true
	}
	w.at++
	w.stack = append(w.stack, &frame{kind: "call", name: big})
	if w.blanks() == ')' {
		w.at++
		w.stack = w.stack[:len(w.stack)-1]
		return call(big), true
	}
	return nil, true
}

// operand reads on to the next whole operand; false where something may not be.
func (w *walker) operand() bool {
	for {
		var got nodes
		ok := true
		f := w.top()
		switch b := w.blanks(); {
		case f.kind == "call" && !f.begun() && (b == ',' || b == ')'):
			got = nothing()
		case b == '-':
			w.at++
			f.waiting = append(f.waiting, "minus")
		case b == '(':
			w.at++
			w.stack = append(w.stack, &frame{kind: "brackets"})
		case b == '{':
			got, ok = w.array()
		case b == '$' || b == '_' || b|0x20 >= 'a' && b|0x20 <= 'z':
			got, ok = w.named()
		default:
			got, ok = w.literal()
		}
		if !ok {
			return false
		}
		if got != nil {
			w.top().operands = append(w.top().operands, got)
			return true
		}
	}
}

// behind reads what stands behind an operand, up to where the next one must come; done where the text ends.
func (w *walker) behind() (ok, done bool) {
	for {
		f := w.top()
		b := w.blanks()
		last := len(f.operands) - 1
		lone := f.operands[last][0].Kind == impl.NodNothing
		switch {
		case w.at == len(w.text):
			f.fold(0)
			return f.kind == "top", true
		case b == '%' && !lone:
			w.at++
			f.operands[last] = percent(f.operands[last])
		case b == ')' && f.kind == "brackets":
			w.at++
			f.fold(0)
			w.stack = w.stack[:len(w.stack)-1]
			w.top().operands = append(w.top().operands, f.operands[0])
		case b == ',' && f.kind == "call":
			w.at++
			f.fold(0)
			f.args, f.operands = append(f.args, f.operands[0]), nil
			return true, false
		case b == ')' && f.kind == "call":
			w.at++
			f.fold(0)
			w.stack = w.stack[:len(w.stack)-1]
			w.top().operands = append(w.top().operands, call(f.name, append(f.args, f.operands[0])...))
		default:
			sign := w.here(operatorGot)
			if sign == "" || lone {
				return false, false
			}
			f.fold(closeness[sign])
			f.waiting = append(f.waiting, sign)
			return true, false
		}
	}
}

// depth: how many nodes are within each other, and how many there are, from the first one on.
func depth(f nodes) (deep, count int) {
	count = 1
	for range f[0].Kids {
		d, c := depth(f[count:])
		deep = max(deep, d)
		count += c
	}
	return deep + 1, count
}

func walkedFormula(text string, home impl.Ref) impl.FormulaRes {
	if len(text) > impl.MaxFormula || !strings.HasPrefix(text, "=") {
		return impl.FormulaRes{Err: 1}
	}
	w := &walker{text: text, at: 1, home: home, second: home != impl.Ref{}, stack: []*frame{{kind: "top"}}}
	for {
		if !w.operand() {
			return impl.FormulaRes{Err: 2, At: w.at}
		}
		ok, done := w.behind()
		if !ok {
			return impl.FormulaRes{Err: 2, At: w.at}
		}
		if done {
			break
		}
	}
	f := w.stack[0].operands[0]
	deep, count := depth(f)
	many := slices.ContainsFunc(f, func(n impl.Node) bool { return n.Kind == impl.NodCall && n.Kids > impl.MaxArgs })
	if deep > impl.MaxDeep || count > impl.MaxNodes || many {
		return impl.FormulaRes{Err: 3}
	}
	return impl.FormulaRes{Nodes: f}
}

// checkWalked holds a text against the walker, in the first notation and by a place, and what is read against what is told.
func checkWalked(t *testing.T, text string, home impl.Ref) {
	t.Helper()
	want := walkedFormula(text, home)
	got := impl.ReadFormula(text)
	if home != (impl.Ref{}) {
		got = impl.ReadFormulaBy(text, home.Row, home.Col)
	}
	if got.Err != want.Err || got.At != want.At || !slices.Equal(got.Nodes, want.Nodes) {
		t.Errorf("%q by %v is read as %v, want %v", text, home, got, want)
		return
	}
	if got.Err == 0 && len(text) < 100 {
		checkTold(t, got.Nodes)
	}
}

// checkTold asks that a good formula is read again from both of its texts.
func checkTold(t *testing.T, f nodes) {
	t.Helper()
	text, by := impl.FormulaText(f), impl.FormulaTextBy(f, 7, 9)
	again, byAgain := impl.ReadFormula(text), impl.ReadFormulaBy(by, 7, 9)
	if again.Err != 0 || !slices.Equal(again.Nodes, f) {
		t.Errorf("%v is told as %q, read as %v", f, text, again)
	}
	if byAgain.Err != 0 || !slices.Equal(byAgain.Nodes, f) {
		t.Errorf("%v is told as %q, read as %v", f, by, byAgain)
	}
	if text != impl.FormulaText(again.Nodes) {
		t.Errorf("%q is told in another way when it is read again", text)
	}
}

// TestShortFormulas holds all short texts of some bytes, with a beginning and an end, against the walker.
func TestShortFormulas(t *testing.T) {
	for _, c := range []struct {
		ahead, letters string
		length         int
		behind         string
		home           impl.Ref
	}{
		{"", "=1 -A+", 4, "", impl.Ref{}},
		{"=", "1-%^() +", 6, "", impl.Ref{}},
		{"=", "1<>=&*/x", 6, "", impl.Ref{}},
		{"=", "1.Ee+-0 ", 6, "", impl.Ref{}},
		{"=", "\"a &1\n", 6, "", impl.Ref{}},
		{"=", "A1$:_.(R", 6, "", impl.Ref{}},
		{"=", "RC1x_.( ", 6, "", impl.Ref{}},
		{"=", "RC[]-1:", 6, "", cell(2, 2)},
		{"=R[-1]C", "RC[]-1:_(", 5, "", cell(2, 2)},
		{"=R1C1:", "RC[]-1._", 5, "", cell(2, 2)},
		{"=", "RC1A$_. ", 5, "", cell(1, 1)},
		{"=f", "f(),1- ", 6, "", impl.Ref{}},
		{"={", "1,;}- .", 6, "", impl.Ref{}},
		{"={", "1,;-\"x", 6, "}", impl.Ref{}},
		{"={1,2;", "1,;}2 x", 5, "}", impl.Ref{}},
		{"={TRUE", "E,_.$1 ", 4, "}", impl.Ref{}},
		{"=T", "RUE1_. (", 5, "", impl.Ref{}},
		{"=#", "NA/!a ", 5, "", impl.Ref{}},
		{"=#N", "/AUM!%a", 5, "", impl.Ref{}},
		{"=A1", ":BC2$ .(", 5, "", impl.Ref{}},
	} {
		t.Run(c.ahead+c.letters, func(t *testing.T) {
			t.Parallel()
			eachText(c.letters, c.length, func(text string) { checkWalked(t, c.ahead+text+c.behind, c.home) })
		})
	}
}

func TestHurtFormulas(t *testing.T) {
	for _, c := range knownFormulas {
		t.Run(c.text, func(t *testing.T) {
			t.Parallel()
			hurt(c.text, func(text string) { checkWalked(t, text, impl.Ref{}) })
		})
	}
	for _, c := range knownBy {
		t.Run(c.text, func(t *testing.T) {
			t.Parallel()
			hurt(c.text, func(text string) { checkWalked(t, text, cell(2, 3)) })
		})
	}
}

var formulaPieces = []string{
	" ", "(", ")", "{", "}", ",", ";", ":", "%", "-", "+", "*", "/", "^", "&", "=", "<", ">", "<=", "<>", "1", "2.5", ".", "1E5", "E", "1E12345", `"a"`, `""`, `"`, "#N/A", "#ref!", "#", "TRUE", "false", "x", "f(", "Sum (", "_", "$",
	"A1", "$B$2", "c3:D4", "R", "RC", "R[-1]C", "r1c1:RC[2]", "[", "]", "{1,2", ";3,-4}", "(1+", "-2%", "\t", "A1(",
}

// TestRandomPieces holds rows of pieces, most of which go with each other by chance alone, against the walker.
func TestRandomPieces(t *testing.T) {
	for seed := range 8 {
		t.Run(strconv.Itoa(seed), func(t *testing.T) {
			t.Parallel()
			random := rand.New(rand.NewSource(int64(seed)))
			for range 20000 {
				text := "="
				for range random.Intn(10) + 1 {
					text += formulaPieces[random.Intn(len(formulaPieces))]
				}
				checkWalked(t, text, impl.Ref{})
				checkWalked(t, text, cell(random.Intn(3)+1, random.Intn(3)+1))
			}
		})
	}
}

func randomNumber(random *rand.Rand) nodes {
	d := randomDec(random, impl.MaxExp)
	d.Neg = false
	if random.Intn(2) == 0 {
		return num(random.Intn(10))
	}
	return one(impl.Node{Kind: impl.NodNum, Num: d})
}

func randomRef(random *rand.Rand) impl.Ref {
	return fixed(random.Intn(impl.MaxRow)+1, random.Intn(impl.MaxCol)+1, fixings[random.Intn(4)])
}

func randomWords(random *rand.Rand) nodes {
	text := ""
	for range random.Intn(6) {
		text += string(`"a =(,#}&`[random.Intn(9)])
	}
	return words(text)
}

// randomValue: what may stand in an array.
func randomValue(random *rand.Rand) nodes {
	switch random.Intn(5) {
	case 0:
		return randomWords(random)
	case 1:
		return truth([]string{"TRUE", "FALSE"}[random.Intn(2)])
	case 2:
		return wrong(errorTexts[random.Intn(len(errorTexts))])
	case 3:
		return minus(randomNumber(random))
	}
	return randomNumber(random)
}

func randomAtom(random *rand.Rand) nodes {
	switch random.Intn(6) {
	case 0:
		return refTo(randomRef(random))
	case 1:
		return areaOf(randomRef(random), randomRef(random))
	case 2:
		return name(goodNames[random.Intn(len(goodNames))])
	case 3:
		rows := random.Intn(3) + 1
		var values []nodes
		for range rows * (random.Intn(3) + 1) {
			values = append(values, randomValue(random))
		}
		return array(rows, values...)
	}
	return randomValue(random)
}

func randomArgs(random *rand.Rand, deep int) []nodes {
	var args []nodes
	for range random.Intn(4) {
		if random.Intn(5) == 0 {
			args = append(args, nothing())
		} else {
			args = append(args, randomTree(random, deep))
		}
	}
	if len(args) == 1 && args[0][0].Kind == impl.NodNothing {
		args = append(args, num(1))
	}
	return args
}

func randomTree(random *rand.Rand, deep int) nodes {
	if deep == 0 {
		return randomAtom(random)
	}
	switch random.Intn(6) {
	case 0:
		return minus(randomTree(random, deep-1))
	case 1:
		return percent(randomTree(random, deep-1))
	case 2:
		return call(strings.ToUpper(goodNames[random.Intn(len(goodNames))]), randomArgs(random, deep-1)...)
	case 3:
		return randomAtom(random)
	}
	level := levels[random.Intn(len(levels))]
	return op(level[random.Intn(len(level))], randomTree(random, deep-1), randomTree(random, deep-1))
}

// teller tells nodes with brackets around all of them, blanks and small letters by chance.
type teller struct {
	random *rand.Rand
	home   impl.Ref
	rest   nodes
}

func (s *teller) blank() string { return strings.Repeat(" ", max(s.random.Intn(4)-2, 0)) }

func (s *teller) letters(text string) string {
	if s.random.Intn(2) == 0 {
		return strings.ToLower(text)
	}
	return text
}

func (s *teller) ref(r impl.Ref) string {
	if s.home != (impl.Ref{}) {
		return s.letters(toldBy(r, s.home.Row, s.home.Col))
	}
	return s.letters(toldRef(walkedNames, r))
}

var walkedNames = walkedCols()

func (s *teller) leaf(n impl.Node) string {
	switch n.Kind {
	case impl.NodNum:
		return s.letters(impl.DecText(n.Num))
	case impl.NodText:
		return `"` + strings.ReplaceAll(n.Text, `"`, `""`) + `"`
	case impl.NodBool, impl.NodErr:
		return s.letters(n.Text)
	case impl.NodRef:
		return s.ref(n.From)
	case impl.NodArea:
		return s.ref(n.From) + ":" + s.ref(n.To)
	}
	return n.Text
}

// list: so many trees in rows of a width.
func (s *teller) list(count, width int, bare bool) string {
	text := s.blank()
	for i := range count {
		if i > 0 && i%width == 0 {
			text += ";" + s.blank()
		} else if i > 0 {
			text += "," + s.blank()
		}
		text += s.tell(bare) + s.blank()
	}
	return text
}

// tell: the next tree; bare without brackets around it, as an array needs it.
func (s *teller) tell(bare bool) string {
	n := s.rest[0]
	s.rest = s.rest[1:]
	text := s.blank()
	switch n.Kind {
	case impl.NodMinus:
		text += "-" + s.tell(bare)
	case impl.NodPercent:
		text += s.tell(false) + s.blank() + "%"
	case impl.NodOp:
		text += s.tell(false) + s.blank() + n.Text + s.tell(false)
	case impl.NodCall:
		text += s.letters(n.Text) + s.blank() + "(" + s.list(n.Kids, impl.MaxArgs, false) + ")"
	case impl.NodArray:
		rows, _ := strconv.Atoi(n.Text)
		text += "{" + s.list(n.Kids, n.Kids/rows, true) + "}"
	default:
		text += s.leaf(n)
	}
	if bare || n.Kind == impl.NodNothing {
		return text
	}
	return s.blank() + "(" + text + s.blank() + ")"
}

// checkBrackets asks that no brackets are told that could be left out.
func checkBrackets(t *testing.T, text string, f nodes) {
	t.Helper()
	var open []int
	quoted := false
	for i := range len(text) {
		switch b := text[i]; {
		case b == '"':
			quoted = !quoted
		case quoted:
		case b == '(':
			open = append(open, i)
		case b == ')':
			from := open[len(open)-1]
			open = open[:len(open)-1]
			if wordForm.FindString(text[from-1:]) != "" {
				continue
			}
			bare := impl.ReadFormula(text[:from] + text[from+1:i] + text[i+1:])
			if bare.Err == 0 && slices.Equal(bare.Nodes, f) {
				t.Errorf("%q has brackets at %d and %d that it does not need", text, from, i)
			}
		}
	}
}

func TestRandomFormulas(t *testing.T) {
	for seed := range 8 {
		t.Run(strconv.Itoa(seed), func(t *testing.T) {
			t.Parallel()
			random := rand.New(rand.NewSource(int64(seed)))
			for range 3000 {
				f := randomTree(random, random.Intn(6))
				home := randomRef(random)
				text := "=" + (&teller{random: random, rest: f}).tell(false)
				by := "=" + (&teller{random: random, rest: f, home: home}).tell(false)
				checkRandom(t, f, text, by, home)
			}
		})
	}
}

// checkRandom asks that both texts of a tree are read as it, and that it is told as shortly as can be.
func checkRandom(t *testing.T, f nodes, text, by string, home impl.Ref) {
	t.Helper()
	if _, count := depth(f); count > impl.MaxNodes {
		return
	}
	if got := impl.ReadFormula(text); len(text) <= impl.MaxFormula && (got.Err != 0 || !slices.Equal(got.Nodes, f)) {
		t.Errorf("%q is read as %v, want %v", text, got, f)
	}
	if got := impl.ReadFormulaBy(by, home.Row, home.Col); len(by) <= impl.MaxFormula && (got.Err != 0 || !slices.Equal(got.Nodes, f)) {
		t.Errorf("%q by %v is read as %v, want %v", by, home, got, f)
	}
	told := impl.FormulaText(f)
	if told == "" || impl.FormulaTextBy(f, 7, 9) == "" {
		return
	}
	if spare := quotedPart.ReplaceAllString(told, ""); strings.Contains(spare, " ") {
		t.Errorf("%q has blanks", told)
	}
	checkTold(t, f)
	checkBrackets(t, told, f)
}

var quotedPart = regexp.MustCompile(`"[^"]*"`)

// goodBySum is whether a list of nodes that are each good by themselves is one tree, told by counting what is open.
func goodBySum(f nodes) bool {
	open := 1
	for _, n := range f {
		if open == 0 {
			return false
		}
		open += n.Kids - 1
	}
	return open == 0
}

// TestShortLists holds all short lists of some nodes against what counting says.
func TestShortLists(t *testing.T) {
	palette := nodes{num(1)[0], name("x")[0], minus(num(1))[0], percent(num(1))[0], op("+", num(1), num(2))[0], call("F")[0], call("F", num(1))[0], call("F", num(1), num(2), num(3))[0]}
	letters := "abcdefgh"
	eachText(letters, 5, func(text string) {
		var f nodes
		for i := range len(text) {
			f = append(f, palette[strings.IndexByte(letters, text[i])])
		}
		if got := impl.GoodFormula(f); got != goodBySum(f) {
			t.Errorf("GoodFormula(%v) = %v", f, got)
		}
		if goodBySum(f) {
			checkTold(t, f)
		}
	})
}
