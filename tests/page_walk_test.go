package tests

import (
	"fmt"
	"math/rand"
	"regexp"
	"slices"
	"strconv"
	"strings"
	"testing"

	"loop.example/g00025/impl"
)

// walkedField: blanks are put beside a text one by one, on the side where they are to stand.
func walkedField(v impl.Value, width int) string {
	if !impl.GoodValue(v) || width < 1 || width > 40 {
		return ""
	}
	text := walkedText(v)
	for i := 0; len(text) < width; i++ {
		isMiddle := v.Kind == impl.ValBool || v.Kind == impl.ValErr
		if v.Kind == impl.ValNum || isMiddle && i%2 == 1 {
			text = " " + text
		} else {
			text += " "
		}
	}
	if len(text) > width && v.Kind == impl.ValNum {
		text = regexp.MustCompile(`.`).ReplaceAllString(text, "#")
	}
	return text[:width]
}

// walkedPrint is all that a sheet shows, by rows, columns and their widths.
type walkedPrint struct {
	values map[[2]int]impl.Value
	widths []int
	rows   int
}

func walkedPrintOf(s impl.Sheet) walkedPrint {
	w := walkedPrint{values: map[[2]int]impl.Value{}}
	list := impl.EvalSheet(s)
	cols := 0
	for _, shown := range list {
		w.values[[2]int{shown.Row, shown.Col}] = shown.Value
		w.rows, cols = max(w.rows, shown.Row), max(cols, shown.Col)
	}
	for col := 1; col <= cols; col++ {
		lengths := []int{3}
		for _, shown := range list {
			if shown.Col == col {
				lengths = append(lengths, len(walkedText(shown.Value)))
			}
		}
		w.widths = append(w.widths, min(slices.Max(lengths), 20))
	}
	return w
}

func (w walkedPrint) width(col int) int {
	if col <= len(w.widths) {
		return w.widths[col-1]
	}
	return 3
}

// across is how many bytes columns take together.
func (w walkedPrint) across(from, to int) int {
	fields := ""
	for col := from; col <= to; col++ {
		fields += " " + letters(w.width(col))
	}
	return len(strings.TrimSpace(fields))
}

// pages looks for the last column of each page by trying them all, from the right.
func (w walkedPrint) pages(width, height int) []impl.Page {
	var out []impl.Page
	if width < 20 || width > 200 || height < 1 || height > 100 {
		return nil
	}
	for col := 1; col <= len(w.widths); {
		last := len(w.widths)
		for w.across(col, last) > width {
			last--
		}
		for row := 1; row <= w.rows; row++ {
			if row%height == 1%height {
				out = append(out, impl.Page{From: cell(row, col), To: cell(row, last)})
			}
			out[len(out)-1].To.Row = row
		}
		col = last + 1
	}
	return out
}

func (w walkedPrint) lines(p impl.Page) []string {
	var out []string
	for row := p.From.Row; row <= p.To.Row; row++ {
		var fields []string
		for col := p.From.Col; col <= p.To.Col; col++ {
			fields = append(fields, walkedField(w.values[[2]int{row, col}], w.width(col)))
		}
		out = append(out, strings.TrimRight(strings.Join(fields, " "), " "))
	}
	return out
}

var titleForm = regexp.MustCompile(`^Page ([1-9]\d*) of ([1-9]\d*) ([A-Z]+\d+):([A-Z]+\d+)$`)

// printedPage is what was read of a page: its title, and its lines.
type printedPage struct {
	number, many int
	from, to     impl.Ref
	lines        []string
}

func readPages(t *testing.T, text string) []printedPage {
	t.Helper()
	rest, ended := strings.CutSuffix(text, "\n")
	if !ended {
		t.Fatalf("%.300q: the last line does not end", text)
	}
	lines := strings.Split(rest, "\n")
	var out []printedPage
	for len(lines) > 0 {
		title := titleForm.FindStringSubmatch(lines[0])
		if title == nil {
			t.Fatalf("%q is no title", lines[0])
		}
		var p printedPage
		p.number, _ = strconv.Atoi(title[1])
		p.many, _ = strconv.Atoi(title[2])
		p.from, _ = impl.ReadRef(title[3])
		p.to, _ = impl.ReadRef(title[4])
		many := 1 + p.to.Row - p.from.Row
		if many < 1 || 1+many > len(lines) {
			t.Fatalf("%q: there are %d lines behind it", lines[0], len(lines)-1)
		}
		p.lines, lines = lines[1:1+many], lines[1+many:]
		out = append(out, p)
	}
	return out
}

// fields hands on the fields of a page with their places, as they are cut out of its lines.
func (p printedPage) fields(t *testing.T, w walkedPrint, visit func(place [2]int, field string)) {
	t.Helper()
	for i, line := range p.lines {
		at := 0
		line += spaces(w.across(p.from.Col, p.to.Col) - len(line))
		for col := p.from.Col; col <= p.to.Col; col++ {
			if at > 0 && line[at-1] != ' ' {
				t.Errorf("%q: no blank ahead of byte %d", line, at)
			}
			visit([2]int{p.from.Row + i, col}, line[at:at+w.width(col)])
			at += w.width(col) + 1
		}
	}
}

// checkPrinted asks that all that is shown is printed, once, in lines within the width, by reading it again.
func checkPrinted(t *testing.T, s impl.Sheet, width, height int) {
	t.Helper()
	was := cloned(s)
	text := impl.Printed(s, width, height)
	if !sameSheets(s, was) {
		t.Errorf("%.300s was written into", toldSheet(was))
	}
	w := walkedPrintOf(s)
	if len(w.values) == 0 || width < 20 || width > 200 || height < 1 || height > 100 {
		if text != "" {
			t.Errorf("%.300s: printed by %d, %d is %.300q", toldSheet(s), width, height, text)
		}
		return
	}
	pages := readPages(t, text)
	met := map[[2]int]bool{}
	for i, p := range pages {
		if p.number != i+1 || p.many != len(pages) {
			t.Errorf("%.300s: page %d of %d is told as %d of %d", toldSheet(s), i+1, len(pages), p.number, p.many)
		}
		for _, line := range p.lines {
			if len(line) > width || strings.HasSuffix(line, " ") {
				t.Errorf("%.300s: %q by %d", toldSheet(s), line, width)
			}
		}
		p.fields(t, w, func(place [2]int, field string) {
			if want := walkedField(w.values[place], w.width(place[1])); met[place] || field != want {
				t.Errorf("%.300s: %v is printed as %q, want %q, once", toldSheet(s), place, field, want)
			}
			met[place] = true
		})
	}
	for place := range w.values {
		if !met[place] {
			t.Errorf("%.300s: %v is not printed", toldSheet(s), place)
		}
	}
	if len(met) != w.rows*len(w.widths) {
		t.Errorf("%.300s: %d places are printed, want %d", toldSheet(s), len(met), w.rows*len(w.widths))
	}
}

func checkLaidOut(t *testing.T, s impl.Sheet, width, height int) {
	t.Helper()
	w := walkedPrintOf(s)
	wantWidths(t, s, w.widths...)
	pages := w.pages(width, height)
	was := cloned(s)
	if got := impl.Pages(s, width, height); !slices.Equal(got, pages) || !sameSheets(s, was) {
		t.Errorf("%.300s: the pages of %d, %d are %.300v, want %.300v", toldSheet(s), width, height, got, pages)
	}
	var printed []string
	for i, p := range pages {
		printed = append(printed, fmt.Sprintf("Page %d of %d %s:%s", i+1, len(pages), impl.RefText(p.From), impl.RefText(p.To)))
		printed = append(printed, w.lines(p)...)
	}
	wantPrinted(t, s, width, height, printed...)
	checkPrinted(t, s, width, height)
}

// TestEveryField has all good values at the edges in every width, and numbers, bools, errors and texts of each length.
func TestEveryField(t *testing.T) {
	values := goodValues()
	for n := range 45 {
		values = append(values, wordsVal(letters(n)), wordsVal(spaces(n)), wordsVal(spaces(n)+"x"), impl.Value{Kind: impl.ValNum, Num: impl.DecOf(-123456789012345, n-30).Dec}, impl.Value{Kind: impl.ValNum, Num: impl.DecOf(7, n-20).Dec})
	}
	for _, v := range values {
		for width := -2; width <= 45; width++ {
			wantField(t, v, width, walkedField(v, width))
		}
	}
}

func TestRandomFields(t *testing.T) {
	eachRandom(t, 2000, func(t *testing.T, random *rand.Rand) {
		width := random.Intn(44) - 1
		v := randomGood(random)
		wantField(t, v, width, walkedField(v, width))
		v = anyValue(random)
		wantField(t, v, width, walkedField(v, width))
	})
}

// TestEveryWidth has columns that just fill pages of every width, lack one byte, or have one too many.
func TestEveryWidth(t *testing.T) {
	for width := 20; width <= 200; width++ {
		var widths []int
		left := width
		for left > 24 {
			widths = append(widths, 20)
			left -= 21
		}
		if left > 20 {
			widths = append(widths, 3)
			left -= 4
		}
		for _, more := range []int{-1, 0, 1} {
			last := left + more
			s := sheetOfWidths(2, append(slices.Clone(widths), last, 20)...)
			to := len(widths) + 1
			if more == 1 {
				to--
			}
			if pages := impl.Pages(s, width, 2); last >= 3 && last <= 20 && to > 0 && pages[0] != (impl.Page{From: cell(1, 1), To: cell(2, to)}) {
				t.Errorf("widths %v, %d in %d: the first page is %v, want to column %d", widths, last, width, pages[0], to)
			}
			checkLaidOut(t, s, width, 2)
		}
	}
}

// TestEveryHeight has rows of up to three pages of every height.
func TestEveryHeight(t *testing.T) {
	for height := 1; height <= 100; height++ {
		for _, rows := range []int{1, height - 1, height, height + 1, 2 * height, 2*height + 1} {
			if rows > 0 {
				checkLaidOut(t, sheetOfWidths(rows, 7, 15, 4), 20+height, height)
			}
		}
	}
}

// spread is a sheet of values of many lengths in more columns than go onto a page.
func (c composer) spread() impl.Sheet {
	var s impl.Sheet
	lastRow, lastCol := 1+c.Intn(12), 1+c.Intn(16)
	for row := 1; row <= lastRow; row++ {
		for col := 1; col <= lastCol; col++ {
			if c.Intn(4) > 0 {
				continue
			}
			text := "'" + spaces(c.Intn(3)) + letters(c.Intn(25)) + spaces(c.Intn(3))
			switch c.Intn(5) {
			case 0:
				text = impl.DecText(randomDec(c.Rand, 1+c.Intn(300)))
			case 1:
				text = c.pick("TRUE", "FALSE", "#N/A", "#VALUE!", "7", "-12", "=1/3", "=-1/7", "=1E200*-1.23456789012345", "Page 1 of 1 A1:A1", "=A1", "={1;2}", "={123456,\"abcdef\",TRUE}", "=SEQUENCE(2,3,99,1000)", "=REPT(\"ab \",9)")
			}
			s.Cells = append(s.Cells, impl.Cell{Row: row, Col: col, Text: text})
		}
	}
	return s
}

func TestRandomPages(t *testing.T) {
	eachRandom(t, 60, func(t *testing.T, random *rand.Rand) {
		c := composer{Rand: random}
		for _, s := range []impl.Sheet{c.sheet(), c.spread(), c.spread()} {
			checkLaidOut(t, s, 20+random.Intn(1+random.Intn(181)), 1+random.Intn(1+random.Intn(100)))
			from := cell(1+random.Intn(14), 1+random.Intn(18))
			p := impl.Page{From: from, To: cell(from.Row+random.Intn(6), from.Col+random.Intn(9))}
			wantLines(t, s, p, walkedPrintOf(s).lines(p)...)
		}
	})
}

// TestRandomPagesAtTheEnd has sheets at the last rows and columns.
func TestRandomPagesAtTheEnd(t *testing.T) {
	eachRandom(t, 1, func(t *testing.T, random *rand.Rand) {
		s := atTheEnd(composer{Rand: random}.sheet())
		checkLaidOut(t, s, 20+random.Intn(181), 1+random.Intn(100))
		p := impl.Page{From: cell(995+random.Intn(3), 195+random.Intn(3)), To: cell(998+random.Intn(3), 198+random.Intn(3))}
		wantLines(t, s, p, walkedPrintOf(s).lines(p)...)
	})
}

// TestAnyPages: whatever it is given, each function answers, and writes nothing.
func TestAnyPages(t *testing.T) {
	eachRandom(t, 60, func(t *testing.T, random *rand.Rand) {
		c := composer{Rand: random}
		s := anySheet(c)
		was := cloned(s)
		number := func(most int) int {
			if random.Intn(8) == 0 {
				return farNumbers[random.Intn(len(farNumbers))]
			}
			return random.Intn(most) - 1
		}
		anyRef := func() impl.Ref {
			return impl.Ref{Row: number(1003), Col: number(203), RowFix: random.Intn(2) == 0, ColFix: random.Intn(2) == 0}
		}
		width, height := 15+number(190), number(103)
		w := walkedPrintOf(s)
		wantWidths(t, s, w.widths...)
		if got := impl.Pages(s, width, height); !slices.Equal(got, w.pages(width, height)) {
			t.Errorf("%.300s: the pages of %d, %d are %.300v", toldSheet(s), width, height, got)
		}
		checkPrinted(t, s, width, height)
		p := impl.Page{From: anyRef(), To: anyRef()}
		var lines []string
		if impl.GoodSheet(s) && impl.GoodRef(p.From) && impl.GoodRef(p.To) && p.From.Col <= p.To.Col {
			lines = w.lines(p)
		}
		wantLines(t, s, p, lines...)
		if !sameSheets(s, was) {
			t.Errorf("%s was written into", toldSheet(was))
		}
	})
}
