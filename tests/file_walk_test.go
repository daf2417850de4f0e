package tests

import (
	"bytes"
	"encoding/binary"
	"encoding/csv"
	"maps"
	"math/rand"
	"slices"
	"strings"
	"testing"

	"loop.example/g00025/impl"
)

// The second way through a separated text: byte by byte, by what the last one left open.
const (
	atField = iota
	inPlain
	inQuoted
	behindQuoted
)

func walkedSeparated(text, mark string) impl.SeparatedRes {
	if len(text) > 20000 || !slices.Contains(fileMarks, mark) {
		return impl.SeparatedRes{Err: impl.FileRange}
	}
	var out [][]string
	var fields []string
	state, field, lastEnd := atField, "", 0
	for i := 0; i < len(text); i++ {
		b := text[i]
		ends := b == '\n' || b == '\r' && i+1 < len(text) && text[i+1] == '\n'
		switch {
		case state == inQuoted && b == '"':
			state = behindQuoted
		case state == inQuoted:
			field += string([]byte{b})
		case state == behindQuoted && b == '"':
			state, field = inQuoted, field+`"`
		case b == mark[0]:
			state, fields, field = atField, append(fields, field), ""
		case ends:
			if b == '\r' {
				i++
			}
			out = append(out, append(fields, field))
			state, fields, field, lastEnd = atField, nil, "", i+1
		case state == behindQuoted || b == '"' && state == inPlain:
			return impl.SeparatedRes{Err: impl.FileCode, At: i}
		case b == '"':
			state = inQuoted
		default:
			state, field = inPlain, field+string([]byte{b})
		}
	}
	if state == inQuoted {
		return impl.SeparatedRes{Err: impl.FileShort, At: len(text)}
	}
	if lastEnd < len(text) {
		out = append(out, append(fields, field))
	}
	return impl.SeparatedRes{Rows: out}
}

func walkedSeparatedText(list [][]string, mark string) string {
	if !slices.Contains(fileMarks, mark) {
		return ""
	}
	out := []byte{}
	for _, fields := range list {
		if len(fields) == 0 {
			return ""
		}
		for i, field := range fields {
			if i > 0 {
				out = append(out, mark[0])
			}
			around := len(fields) == 1 && len(field) == 0
			var inner []byte
			for k := range len(field) {
				b := field[k]
				around = around || b == mark[0] || b == 10 || b == 13 || b == 34
				if b == 34 {
					inner = append(inner, b)
				}
				inner = append(inner, b)
			}
			if around {
				inner = append(append([]byte{34}, inner...), 34)
			}
			out = append(out, inner...)
		}
		out = append(out, 10)
		if len(out) > 20000 {
			return ""
		}
	}
	return string(out)
}

// checkText asks for what a text is, and for the text of its rows, which is read as these again.
func checkText(t *testing.T, text string) {
	t.Helper()
	for _, mark := range fileMarks {
		want := walkedSeparated(text, mark)
		wantSeparated(t, text, mark, want)
		checkRowsTold(t, want.Rows, mark)
	}
}

func checkRowsTold(t *testing.T, list [][]string, mark string) {
	t.Helper()
	text := walkedSeparatedText(list, mark)
	wantToldRows(t, list, mark, text)
	if text != "" {
		wantSeparated(t, text, mark, impl.SeparatedRes{Rows: list})
	}
}

func TestShortSeparatedTexts(t *testing.T) {
	eachText("a,;\"\n\r", 5, func(text string) { checkText(t, text) })
	eachText(",\"\n\r", 7, func(text string) {
		wantSeparated(t, text, ",", walkedSeparated(text, ","))
	})
}

func TestHurtSeparatedTexts(t *testing.T) {
	for _, text := range []string{"a,\"b,\"\"c\"\"\",\r\n\n\"x\ny\",z", "\"\"\r\n\"\";\t\"\"\n", "\u20ac,\"\u00e9\"\r\n\xff"} {
		hurt(text, func(text string) { checkText(t, text) })
	}
}

// field is one with something in it that means something, now and then.
func (c composer) field() string {
	out := ""
	for range c.Intn(5) {
		switch c.Intn(6) {
		case 0:
			out += c.pick("\"", ",", ";", "\t", "\n", "\r", "\r\n", "\"\"")
		case 1:
			out += string([]byte{byte(c.Intn(256))})
		case 2:
			out += c.pick("=", "'", " ", "\u20ac", "1")
		default:
			out += c.pick("a", "b", "xyz")
		}
	}
	return out
}

func (c composer) rows() [][]string {
	var out [][]string
	for range c.Intn(6) {
		var fields []string
		for range 1 + c.Intn(4) {
			fields = append(fields, c.field())
		}
		out = append(out, fields)
	}
	return out
}

func TestRandomRowsOfFields(t *testing.T) {
	eachRandom(t, 2000, func(t *testing.T, random *rand.Rand) {
		c := composer{Rand: random}
		list := c.rows()
		for _, mark := range fileMarks {
			checkRowsTold(t, list, mark)
			checkByLibrary(t, list, mark)
		}
		text := ""
		for range random.Intn(40) {
			text += c.pick("\"", "\"", ",", ";", "\t", "\n", "\r", "\r\n", "a", "\xff", "\"a\"", "\"\"")
		}
		checkText(t, text)
	})
}

// checkByLibrary has the library read the text; it takes 13 10 for 10 within a field, so there is no 13 in it here.
func checkByLibrary(t *testing.T, list [][]string, mark string) {
	t.Helper()
	list = clonedRows(list)
	for _, fields := range list {
		for i := range fields {
			fields[i] = strings.ReplaceAll(fields[i], "\r", "x")
		}
	}
	r := csv.NewReader(strings.NewReader(impl.SeparatedText(list, mark)))
	r.Comma, r.FieldsPerRecord = rune(mark[0]), -1
	got, err := r.ReadAll()
	if err != nil || !sameRows(got, list) {
		t.Errorf("%q by %q is read by the library as %q, %v", list, mark, got, err)
	}
}

// TestRandomSheetsOfRows asks for each field's cell, and for what the sheet shows, place by place.
func TestRandomSheetsOfRows(t *testing.T) {
	eachRandom(t, 500, func(t *testing.T, random *rand.Rand) {
		c := composer{Rand: random}
		list := c.rows()
		if random.Intn(2) == 0 {
			for _, fields := range list {
				for i := range fields {
					fields[i] = c.pick("", "1", "x", "=1", "'x", "''", "TRUE", "1.50", "#N/A", "'")
				}
			}
		}
		wantSheetOf(t, list, list, walkedSheetOf(list))
		s := c.sheet()
		wantRowsOf(t, s, walkedRowsOf(s))
	})
}

func walkedSheetOf(list [][]string) impl.Sheet {
	var s impl.Sheet
	for row := 1; row <= len(list); row++ {
		for col := 1; col <= len(list[row-1]); col++ {
			text := list[row-1][col-1]
			if strings.IndexAny(text, "='") == 0 {
				text = "'" + text
			}
			if text != "" {
				s.Cells = append(s.Cells, impl.Cell{Row: row, Col: col, Text: text})
			}
		}
	}
	if !impl.GoodSheet(s) {
		return impl.Sheet{}
	}
	return s
}

func walkedRowsOf(s impl.Sheet) [][]string {
	list := impl.EvalSheet(s)
	lastRow, lastCol := 0, 0
	for _, shown := range list {
		lastRow, lastCol = max(lastRow, shown.Row), max(lastCol, shown.Col)
	}
	var out [][]string
	for row := 1; row <= lastRow; row++ {
		var fields []string
		for col := 1; col <= lastCol; col++ {
			fields = append(fields, impl.ShowValue(impl.ValueAt(list, row, col)))
		}
		out = append(out, fields)
	}
	return out
}

// walkedPacked has the file of a good sheet, however long it is.
func walkedPacked(s impl.Sheet) []byte {
	met := map[string]bool{}
	for _, c := range s.Cells {
		met[c.Text] = true
	}
	for _, n := range s.Names {
		met[n.Name], met[n.Text] = true, true
	}
	texts := slices.Sorted(maps.Keys(met))
	numbers := map[string]int{}
	parts := []any{len(texts)}
	for i, text := range texts {
		numbers[text] = i
		parts = append(parts, len(text), text)
	}
	parts = append(parts, len(s.Cells))
	for i, c := range s.Cells {
		below, col := c.Row-1, c.Col
		if i > 0 {
			below = c.Row - s.Cells[i-1].Row
			if below == 0 {
				col -= s.Cells[i-1].Col
			}
		}
		parts = append(parts, below, col, numbers[c.Text])
	}
	parts = append(parts, len(s.Names))
	for _, n := range s.Names {
		parts = append(parts, numbers[n.Name], numbers[n.Text])
	}
	return fileOf(parts...)
}

// walkedUnpacked throws what is told at the first thing that may not be.
func walkedUnpacked(data []byte) (res impl.PackedRes) {
	defer func() {
		switch x := recover().(type) {
		case nil:
		case int:
			res = impl.PackedRes{Err: x}
		default:
			panic(x)
		}
	}()
	fail := func(is bool, err int) {
		if is {
			panic(err)
		}
	}
	fail(len(data) > 20000, impl.FileRange)
	rest := data
	next := func() byte {
		fail(len(rest) == 0, impl.FileShort)
		b := rest[0]
		rest = rest[1:]
		return b
	}
	number := func(least, most int) int {
		told := []byte{next()}
		for told[len(told)-1] >= 128 {
			fail(len(told) == 3, impl.FileCode)
			told = append(told, next())
		}
		n, _ := binary.Uvarint(told)
		fail(!bytes.Equal(binary.AppendUvarint(nil, n), told), impl.FileCode)
		fail(int(n) < least || int(n) > most, impl.FileRange)
		return int(n)
	}
	for _, b := range []byte{83, 72, 49, 10} {
		fail(next() != b, impl.FileCode)
	}
	texts := make([]string, number(0, 380))
	used := map[int]bool{}
	for i := range texts {
		for range number(0, 2000) {
			b := next()
			fail(b < 32 || b > 126, impl.FileRange)
			texts[i] += string(rune(b))
		}
		fail(i > 0 && strings.Compare(texts[i-1], texts[i]) != -1, impl.FileOrder)
	}
	text := func() string {
		n := number(0, len(texts)-1)
		used[n] = true
		return texts[n]
	}
	at := impl.Cell{Row: 1}
	for range number(0, 300) {
		below := number(0, 1000-at.Row)
		if below > 0 {
			at = impl.Cell{Row: at.Row + below}
		}
		at.Col += number(boolNumber(at.Col == 0), 200-at.Col)
		at.Text = text()
		res.Sheet.Cells = append(res.Sheet.Cells, at)
	}
	for range number(0, 40) {
		name := text()
		res.Sheet.Names = append(res.Sheet.Names, impl.Named{Name: name, Text: text()})
	}
	body := data[:len(data)-len(rest)]
	sum := []byte{next(), next(), next(), next()}
	fail(!bytes.Equal(append(slices.Clone(body), sum...), summed(body)), impl.FileSum)
	fail(len(rest) > 0, impl.FileMore)
	fail(!impl.GoodSheet(res.Sheet) || len(used) < len(texts), impl.FileOrder)
	return res
}

// checkFile holds a file against the second way, and what is taken against what its sheet is packed as.
func checkFile(t *testing.T, data []byte) impl.PackedRes {
	t.Helper()
	got := wantUnpacked(t, "a file", data, walkedUnpacked(data))
	if got.Err == 0 {
		wantPacked(t, got.Sheet, data)
	}
	return got
}

// TestHurtFiles changes every byte of files to each other one, with the checksum as it was and made right again.
func TestHurtFiles(t *testing.T) {
	taken := 0
	for _, s := range somePacked() {
		data := walkedPacked(s)
		for at := range data {
			for b := range 256 {
				other := slices.Clone(data)
				other[at] = byte(b)
				if other[at] == data[at] {
					continue
				}
				if checkFile(t, other).Err == 0 {
					t.Errorf("%v is taken with byte %d made %d", data, at, b)
				}
				if res := checkFile(t, summed(other[:len(other)-4])); res.Err == 0 && at < len(data)-4 {
					taken++
					if sameSheets(res.Sheet, s) {
						t.Errorf("%v with byte %d made %d is the same sheet", data, at, b)
					}
				}
			}
		}
	}
	if taken < 100 {
		t.Errorf("only %d hurt files are taken", taken)
	}
}

// TestFilesWithOtherLengths puts bytes in and takes them out, with the checksum as it was and made right again.
func TestFilesWithOtherLengths(t *testing.T) {
	for _, s := range somePacked()[:5] {
		data := walkedPacked(s)
		body := data[:len(data)-4]
		hurt(string(data), func(text string) { checkFile(t, []byte(text)) })
		hurt(string(body), func(text string) { checkFile(t, summed([]byte(text))) })
	}
}

// body is a file's bytes ahead of the checksum, with cells and names of any numbers, mostly small ones.
func (c composer) body() []byte {
	texts := []string{"=1", "=FOO", "BAR", "FOO", "x"}[c.Intn(6):]
	parts := []any{len(texts)}
	for _, text := range texts {
		parts = append(parts, len(text), text)
	}
	for _, each := range []int{3, 2} {
		many := c.Intn(4)
		parts = append(parts, many)
		for range many * each {
			parts = append(parts, c.Intn(max(len(texts), 1)))
		}
		if c.Intn(10) == 0 {
			parts = append(parts, []byte{byte(c.Intn(256)), byte(c.Intn(256))})
		}
	}
	return bodyOf(parts...)
}

func TestRandomFiles(t *testing.T) {
	eachRandom(t, 500, func(t *testing.T, random *rand.Rand) {
		c := composer{Rand: random}
		s := c.sheet()
		data := walkedPacked(s)
		wantFile(t, s, data)
		body := data[:len(data)-4]
		for range 10 {
			other := slices.Clone(body)
			for range 1 + random.Intn(3) {
				other[random.Intn(len(other))] = byte(random.Intn(256))
			}
			checkFile(t, summed(other))
			checkFile(t, other)
			checkFile(t, summed(c.body()))
		}
		checkFile(t, data[:random.Intn(len(data))])
	})
}

// TestAnyFiles: whatever they are given, the functions answer, and write nothing.
func TestAnyFiles(t *testing.T) {
	eachRandom(t, 300, func(t *testing.T, random *rand.Rand) {
		c := composer{Rand: random}
		noise := make([]byte, random.Intn(200))
		random.Read(noise)
		checkFile(t, noise)
		checkFile(t, append([]byte("SH1\n"), noise...))
		mark := c.pick(append(noMarks(), fileMarks...)...)
		wantSeparated(t, string(noise), mark, walkedSeparated(string(noise), mark))
		list := c.rows()
		if random.Intn(3) == 0 {
			list = append(list, nil, row(string(noise)))
		}
		wantToldRows(t, list, mark, walkedSeparatedText(list, mark))
		wantSheetOf(t, list, list, walkedSheetOf(list))
		s := anySheet(c)
		var want []byte
		if impl.GoodSheet(s) {
			want = walkedPacked(s)
		}
		wantPacked(t, s, want)
		wantRowsOf(t, s, walkedRowsOf(s))
	})
}
