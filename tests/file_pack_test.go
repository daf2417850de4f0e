package tests

import (
	"bytes"
	"encoding/binary"
	"fmt"
	"hash/adler32"
	"math/rand"
	"slices"
	"strings"
	"testing"

	"loop.example/g00025/impl"
)

// bodyOf is the bytes of a file ahead of its checksum: numbers as they are told, texts and bytes as they are.
func bodyOf(parts ...any) []byte {
	out := []byte{83, 72, 49, 10}
	for _, part := range parts {
		switch x := part.(type) {
		case int:
			out = binary.AppendUvarint(out, uint64(x))
		case string:
			out = append(out, x...)
		case []byte:
			out = append(out, x...)
		default:
			panic(fmt.Sprint(part))
		}
	}
	return out
}

// summed has the right checksum behind bytes.
func summed(body []byte) []byte {
	return binary.LittleEndian.AppendUint32(slices.Clone(body), adler32.Checksum(body))
}

func fileOf(parts ...any) []byte { return summed(bodyOf(parts...)) }

func wantPacked(t *testing.T, s impl.Sheet, want []byte) {
	t.Helper()
	was := cloned(s)
	got := impl.PackSheet(s)
	if !bytes.Equal(got, want) {
		t.Errorf("%.300s is packed in %d bytes as\n%.300v, want %d\n%.300v", toldSheet(s), len(got), got, len(want), want)
	}
	if !sameSheets(s, was) {
		t.Errorf("%.300s was written into", toldSheet(was))
	}
}

func wantUnpacked(t *testing.T, what any, data []byte, want impl.PackedRes) impl.PackedRes {
	t.Helper()
	was := slices.Clone(data)
	got := impl.UnpackSheet(data)
	if got.Err != want.Err || !sameSheets(got.Sheet, want.Sheet) {
		t.Errorf("%.300v, %d bytes %.200v: %d, %.300s, want %d, %.300s", what, len(data), data, got.Err, toldSheet(got.Sheet), want.Err, toldSheet(want.Sheet))
	}
	if !bytes.Equal(data, was) {
		t.Errorf("%.300v was written into", what)
	}
	return got
}

func wantErr(t *testing.T, what any, data []byte, err int) {
	t.Helper()
	wantUnpacked(t, what, data, impl.PackedRes{Err: err})
}

// wantFile asks for the file of a sheet, and for the sheet of the file.
func wantFile(t *testing.T, s impl.Sheet, data []byte) {
	t.Helper()
	wantPacked(t, s, data)
	wantUnpacked(t, toldSheet(s), data, impl.PackedRes{Sheet: s})
}

func TestFilesOfSheets(t *testing.T) {
	for _, c := range []struct {
		sheet string
		parts []any
	}{
		// No cells and no names, cells, names, and both.
		{"", []any{0, 0, 0}},
		{"A1: x", []any{1, 1, "x", 1, 0, 1, 0, 0}},
		{"FOO: =1", []any{2, 2, "=1", 3, "FOO", 0, 1, 1, 0}},
		{"A1: x | FOO: =1", []any{3, 2, "=1", 3, "FOO", 1, "x", 1, 0, 1, 2, 1, 1, 0}},
		{"B1: x | A3: =1 | C3: x", []any{2, 2, "=1", 1, "x", 3, 0, 2, 1, 2, 1, 0, 0, 2, 1, 0}},
		// Rows and columns by what is ahead of them: in the same row, in the next one, in a later one, farther left.
		{"A1: a | B1: b | C1: c", []any{3, 1, "a", 1, "b", 1, "c", 3, 0, 1, 0, 0, 1, 1, 0, 1, 2, 0}},
		{"C1: a | E1: a | Z1: a", []any{1, 1, "a", 3, 0, 3, 0, 0, 2, 0, 0, 21, 0, 0}},
		{"A1: a | A2: a | A3: a", []any{1, 1, "a", 3, 0, 1, 0, 1, 1, 0, 1, 1, 0, 0}},
		{"E5: a | B6: a | B9: a | C9: a", []any{1, 1, "a", 4, 4, 5, 0, 1, 2, 0, 3, 2, 0, 0, 1, 0, 0}},
		{"A2: a", []any{1, 1, "a", 1, 1, 1, 0, 0}}, {"GR1: a", []any{1, 1, "a", 1, 0, 200, 0, 0}}, {"A1000: a", []any{1, 1, "a", 1, 999, 1, 0, 0}}, {"GR1000: a", []any{1, 1, "a", 1, 999, 200, 0, 0}}, {"A1: a | GR1000: a", []any{1, 1, "a", 2, 0, 1, 0, 999, 200, 0, 0}}, {"GR1: a | A2: a | GR2: a", []any{1, 1, "a", 3, 0, 200, 0, 1, 1, 0, 0, 199, 0, 0}}, {"A1: a | A1000: a | GR1000: a", []any{1, 1, "a", 3, 0, 1, 0, 999, 1, 0, 0, 199, 0, 0}},
		// Texts rise by bytes, whatever stands first.
		{"A1: b | B1: a | C1: B | D1: ab | E1: ~ | F1:  ", []any{6, 1, " ", 1, "B", 1, "a", 2, "ab", 1, "b", 1, "~", 6, 0, 1, 4, 0, 1, 2, 0, 1, 1, 0, 1, 3, 0, 1, 5, 0, 1, 0, 0}},
		// A text that stands several times, as a cell's, a name's and a formula's.
		{"A1: x | A2: y | A3: x | A4: x", []any{2, 1, "x", 1, "y", 4, 0, 1, 0, 1, 1, 1, 1, 1, 0, 1, 1, 0, 0}},
		{"A1: FOO | FOO: =1", []any{2, 2, "=1", 3, "FOO", 1, 0, 1, 1, 1, 1, 0}}, {"A1: =1 | FOO: =1", []any{2, 2, "=1", 3, "FOO", 1, 0, 1, 0, 1, 1, 0}}, {"BAR: =1 | FOO: =1", []any{3, 2, "=1", 3, "BAR", 3, "FOO", 0, 2, 1, 0, 2, 0}}, {"A1: =X | B1: X | C1: =X | X: =X | Y: =X", []any{3, 2, "=X", 1, "X", 1, "Y", 3, 0, 1, 0, 0, 1, 1, 0, 1, 0, 2, 1, 0, 2, 0}},
		// What is no formula, and what is none of a cell's values, are texts as well.
		{"A1: =1+ | B1: ' | C1: = | X: =", []any{4, 1, "'", 1, "=", 3, "=1+", 1, "X", 3, 0, 1, 2, 0, 1, 0, 0, 1, 1, 1, 3, 1}},
	} {
		wantFile(t, sheetOf(c.sheet), fileOf(c.parts...))
	}
}

// TestFilesAtTheEdges: all good sheets come back, those at the bounds of what is good among them.
func TestFilesAtTheEdges(t *testing.T) {
	for _, s := range goodSheets() {
		data := impl.PackSheet(s)
		if len(data) == 0 {
			t.Errorf("%.300s is not packed", toldSheet(s))
			continue
		}
		wantPacked(t, s, walkedPacked(s))
		wantUnpacked(t, toldSheet(s), data, impl.PackedRes{Sheet: s})
	}
	for _, s := range noSheets() {
		wantPacked(t, s, nil)
	}
	wantFile(t, fullSheet(), walkedPacked(fullSheet()))
}

// fullSheet has as many cells, names and texts as there may be, no text twice.
func fullSheet() impl.Sheet {
	s := impl.Sheet{Cells: manyCells(300, ""), Names: manyNames(40, "")}
	for i := range s.Cells {
		s.Cells[i].Text = fmt.Sprintf("c%03d", 299-i)
	}
	for i := range s.Names {
		s.Names[i].Text = fmt.Sprintf("=%d", 100+i)
	}
	return s
}

// TestPackedNumbers has lengths and numbers of texts at the ends of what one byte and two can tell.
func TestPackedNumbers(t *testing.T) {
	for _, n := range []int{1, 2, 126, 127, 128, 129, 255, 256, 1999, 2000} {
		told := []byte{byte(n)}
		if n >= 128 {
			told = []byte{byte(n%128) + 128, byte(n / 128)}
		}
		wantFile(t, impl.Sheet{Cells: []impl.Cell{{Row: 1, Col: 1, Text: letters(n)}}}, fileOf(1, told, letters(n), 1, 0, 1, 0, 0))
	}
	for _, many := range []int{127, 128, 129, 200, 300} {
		var s impl.Sheet
		parts := []any{many}
		for i := range many {
			text := fmt.Sprintf("%03d", i)
			s.Cells = append(s.Cells, impl.Cell{Row: 1 + i*3, Col: 1 + i%200, Text: text})
			parts = append(parts, 3, text)
		}
		parts = append(parts, many)
		for i := range many {
			parts = append(parts, 3*boolNumber(i > 0), 1+i%200, i)
		}
		wantFile(t, s, fileOf(append(parts, 0)...))
	}
	// Rows and columns in one byte and two: below, and in the same row.
	for _, at := range []int{1, 126, 127, 128, 129, 200} {
		wantFile(t, impl.Sheet{Cells: []impl.Cell{{Row: 1 + at, Col: at, Text: "x"}}}, fileOf(1, 1, "x", 1, at, at, 0, 0))
	}
	for _, beside := range []int{1, 127, 128, 197} {
		wantFile(t, impl.Sheet{Cells: []impl.Cell{{Row: 9, Col: 3, Text: "x"}, {Row: 9, Col: 3 + beside, Text: "x"}}}, fileOf(1, 1, "x", 2, 8, 3, 0, 0, beside, 0, 0))
	}
}

// bigSheet is one whose file has so many bytes: between 18000 and 20100.
func bigSheet(size int) impl.Sheet {
	var s impl.Sheet
	for row := 1; row <= 10; row++ {
		s.Cells = append(s.Cells, impl.Cell{Row: row, Col: 1, Text: fmt.Sprint(row) + letters(1700)})
	}
	lack := size - len(walkedPacked(s))
	for i := range s.Cells {
		more := min(lack, 2000-len(s.Cells[i].Text))
		s.Cells[i].Text += letters(more)
		lack -= more
	}
	return s
}

func TestLongFiles(t *testing.T) {
	for _, size := range []int{18000, 19998, 19999, 20000} {
		s := bigSheet(size)
		data := walkedPacked(s)
		if len(data) != size {
			t.Fatalf("a file of %d bytes is asked for, and not one of %d", size, len(data))
		}
		wantFile(t, s, data)
	}
	for _, size := range []int{20001, 20002, 20050} {
		s := bigSheet(size)
		if data := walkedPacked(s); len(data) != size || !impl.GoodSheet(s) {
			t.Fatalf("a file of %d bytes is asked for, and not one of %d", size, len(data))
		}
		wantPacked(t, s, nil)
		wantErr(t, size, walkedPacked(s), impl.FileRange)
	}
	whole := impl.Sheet{Cells: manyCells(300, "")}
	for i := range whole.Cells {
		whole.Cells[i].Text = fmt.Sprint(i) + letters(1990)
	}
	wantPacked(t, whole, nil)
	// One text, however often it stands, is there once.
	for i := range whole.Cells {
		whole.Cells[i].Text = letters(2000)
	}
	wantFile(t, whole, walkedPacked(whole))
	// More than MaxFile bytes come ahead of all else.
	last := walkedPacked(bigSheet(20000))
	wantErr(t, "one byte behind", append(slices.Clone(last), 0), impl.FileRange)
	for _, b := range []byte{0, 83, 255} {
		wantErr(t, "20000 bytes that begin otherwise", append([]byte{b + 1}, slices.Repeat([]byte{b}, 19999)...), impl.FileCode)
		wantErr(t, "20001 bytes", slices.Repeat([]byte{b}, 20001), impl.FileRange)
		wantErr(t, "many bytes", slices.Repeat([]byte{b}, 1000000), impl.FileRange)
	}
	behind := append(fileOf(0, 0, 0), make([]byte, 20000)...)
	wantErr(t, "bytes behind", behind[:20000], impl.FileMore)
	wantErr(t, "too many bytes behind", behind[:20001], impl.FileRange)
}

// somePacked are files that have something of everything.
func somePacked() []impl.Sheet {
	return []impl.Sheet{
		{}, sheetOf("A1: x"), sheetOf("FOO: =1"), sheetOf("B1: x | A3: =1 | C3: x"), sheetOf("C2: FOO | A9: =FOO+1 | FOO: =BAR | BAR: =1"), sheetOf("A1: a | B1: b | GR1: ab | A130: b | GR1000: a | N: =a"),
		{Cells: []impl.Cell{{Row: 1, Col: 1, Text: letters(130)}, {Row: 200, Col: 150, Text: "y"}}, Names: []impl.Named{{Name: "Y", Text: "=2"}}},
	}
}

// TestFilesThatEndEarly cuts files at every place.
func TestFilesThatEndEarly(t *testing.T) {
	for _, s := range append(somePacked(), fullSheet()) {
		data := walkedPacked(s)
		for n := range data {
			wantErr(t, n, data[:n:n], impl.FileShort)
		}
		wantUnpacked(t, "all of it", data, impl.PackedRes{Sheet: s})
	}
	wantErr(t, "nil", nil, impl.FileShort)
}

func TestFirstFourBytes(t *testing.T) {
	for _, s := range somePacked() {
		data := walkedPacked(s)
		for at := range 4 {
			for b := range 256 {
				other := slices.Clone(data)
				if other[at] == byte(b) {
					continue
				}
				other[at] = byte(b)
				wantErr(t, at, other, impl.FileCode)
				wantErr(t, at, summed(other[:len(other)-4]), impl.FileCode)
				// The bytes that are there come ahead of those that are not.
				wantErr(t, at, other[:at+1], impl.FileCode)
				wantErr(t, at, other[:at], impl.FileShort)
			}
		}
	}
	wantErr(t, "a text", []byte("SH1"), impl.FileShort)
	wantErr(t, "a text", []byte("SH2\n"), impl.FileCode)
	wantErr(t, "a text", []byte("sh1\n"), impl.FileCode)
	wantErr(t, "13 10", []byte("SH1\r\n"), impl.FileCode)
}

// wholeFile has each kind of number; numberNames say which is which.
func wholeFile() ([]any, []string) {
	return []any{3, 2, "=1", 3, "FOO", 1, "x", 2, 4, 3, 2, 0, 5, 0, 1, 1, 0},
		[]string{"how many texts", "a length", "", "a length", "", "a length", "", "how many cells", "rows below", "a column", "a cell's text", "rows below", "columns beside", "a cell's text", "how many names", "a name's number", "its text's number"}
}

func TestNumbersOfTooManyBytes(t *testing.T) {
	parts, what := wholeFile()
	wantFile(t, sheetOf("C5: x | H5: =1 | FOO: =1"), fileOf(parts...))
	for at, name := range what {
		n, isNumber := parts[at].(int)
		if isNumber != (name != "") {
			t.Fatalf("part %d is %v", at, parts[at])
		}
		if !isNumber {
			continue
		}
		told := func(more ...byte) []byte {
			other := slices.Clone(parts)
			other[at] = append([]byte{byte(n)}, more...)
			if len(more) > 0 {
				other[at].([]byte)[0] |= 128
			}
			return fileOf(other...)
		}
		wantUnpacked(t, name, told(), impl.PackedRes{Sheet: sheetOf("C5: x | H5: =1 | FOO: =1")})
		for _, more := range [][]byte{{0}, {128, 0}, {128, 128}, {128, 128, 0}, {128, 129, 1}, {128, 128, 1}, {255, 255}, {255, 255, 127}, {128, 128, 128, 0}, {255, 255, 255, 255, 127}, {129, 0}, {255, 0}, {128, 128, 128, 128, 128, 128, 128, 128, 128, 1}} {
			wantErr(t, []any{name, more}, told(more...), impl.FileCode)
		}
		// As few as can be, and far beyond all bounds: the greatest of two bytes, the least and the greatest of three.
		for _, more := range [][]byte{{127}, {128, 1}, {255, 1}, {255, 127}, {128, 127}} {
			wantErr(t, []any{name, more}, told(more...), impl.FileRange)
		}
		// A number that the bytes end within: the third byte says already that there are too many.
		ahead := bodyOf(parts[:at]...)
		wantErr(t, name, ahead, impl.FileShort)
		wantErr(t, name, append(slices.Clone(ahead), 128), impl.FileShort)
		wantErr(t, name, append(slices.Clone(ahead), 255, 255), impl.FileShort)
		wantErr(t, name, append(slices.Clone(ahead), 255, 255, 255), impl.FileCode)
		wantErr(t, name, append(slices.Clone(ahead), 128, 0), impl.FileCode)
	}
}

// TestBoundsOfFiles has each number at its bound, and one beyond, where nothing follows, too.
func TestBoundsOfFiles(t *testing.T) {
	beyond := func(what string, parts ...any) {
		t.Helper()
		wantErr(t, what, bodyOf(parts...), impl.FileRange)
		wantErr(t, what, fileOf(parts...), impl.FileRange)
		wantErr(t, what, fileOf(append(parts, 0, 0, 0, 0)...), impl.FileRange)
	}
	// within: it is not the number that the file ends at.
	within := func(what string, parts ...any) {
		t.Helper()
		wantErr(t, what, bodyOf(parts...), impl.FileShort)
	}
	within("texts", 380)
	beyond("texts", 381)
	within("a length", 1, 2000)
	beyond("a length", 1, 2001)
	within("a second length", 2, 1, "a", 2000)
	beyond("a second length", 2, 1, "a", 2001)
	within("cells", 0, 300)
	beyond("cells", 0, 301)
	within("cells", 1, 1, "x", 300)
	beyond("cells", 1, 1, "x", 301)
	within("names", 0, 0, 40)
	beyond("names", 0, 0, 41)
	within("a row", 1, 1, "x", 1, 999)
	beyond("a row", 1, 1, "x", 1, 1000)
	within("a second row", 1, 1, "x", 2, 400, 1, 0, 599)
	beyond("a second row", 1, 1, "x", 2, 400, 1, 0, 600)
	within("a row behind the last one", 1, 1, "x", 2, 999, 1, 0, 0)
	beyond("a row behind the last one", 1, 1, "x", 2, 999, 1, 0, 1)
	within("a column", 1, 1, "x", 1, 0, 200)
	beyond("a column", 1, 1, "x", 1, 0, 201)
	within("a column", 1, 1, "x", 1, 0, 1)
	beyond("no column", 1, 1, "x", 1, 0, 0)
	within("a column below", 1, 1, "x", 2, 0, 7, 0, 1, 200)
	beyond("a column below", 1, 1, "x", 2, 0, 7, 0, 1, 201)
	beyond("no column below", 1, 1, "x", 2, 0, 7, 0, 1, 0)
	beyond("no column in a first cell below", 1, 1, "x", 1, 5, 0)
	within("a column beside", 1, 1, "x", 2, 0, 7, 0, 0, 193)
	beyond("a column beside", 1, 1, "x", 2, 0, 7, 0, 0, 194)
	beyond("a column beside the last one", 1, 1, "x", 2, 3, 200, 0, 0, 1)
	within("the same column", 1, 1, "x", 2, 0, 7, 0, 0, 0)
	within("a text", 2, 1, "x", 1, "y", 1, 0, 1, 1)
	beyond("a text", 2, 1, "x", 1, "y", 1, 0, 1, 2)
	beyond("a text of none", 0, 1, 0, 1, 0)
	within("a name", 2, 1, "x", 1, "y", 0, 1, 1)
	beyond("a name", 2, 1, "x", 1, "y", 0, 1, 2)
	beyond("a name of none", 0, 0, 1, 0)
	within("a name's text", 2, 1, "x", 1, "y", 0, 1, 0, 1)
	beyond("a name's text", 2, 1, "x", 1, "y", 0, 1, 0, 2)
	beyond("a name's text", 2, 1, "x", 1, "y", 0, 2, 0, 1, 1, 2)
}

// TestBytesOfSharedTexts: those that may be in a cell, at each place of a text.
func TestBytesOfSharedTexts(t *testing.T) {
	for b := range 256 {
		one := string([]byte{byte(b)})
		for _, text := range []string{one, one + "ab", "a" + one + "b", "ab" + one} {
			data := fileOf(1, len(text), text, 1, 0, 1, 0, 0)
			if 32 <= b && b <= 126 {
				wantUnpacked(t, b, data, impl.PackedRes{Sheet: impl.Sheet{Cells: []impl.Cell{{Row: 1, Col: 1, Text: text}}}})
				continue
			}
			wantErr(t, b, data, impl.FileRange)
			// Ahead of what lacks behind it, not of what lacks ahead of it.
			at := strings.Index(text, one)
			wantErr(t, b, bodyOf(1, len(text), text[:at+1]), impl.FileRange)
			wantErr(t, b, bodyOf(1, len(text), text[:at]), impl.FileShort)
		}
	}
}

func TestSharedTextsThatDoNotRise(t *testing.T) {
	for _, c := range []struct {
		texts []string
		rise  bool
	}{
		{row("a", "b"), true}, {row("b", "a"), false}, {row("a", "a"), false}, {row("a", "ab"), true}, {row("ab", "a"), false}, {row("B", "a"), true}, {row("a", "B"), false}, {row("10", "9"), true}, {row("9", "10"), false}, {row("a", "b", "a"), false}, {row("a", "c", "b"), false}, {row("b", "a", "c"), false}, {row("a", "b", "b"), false}, {row("", "a"), true}, {row("a", ""), false}, {row("", ""), false}, {row(" ", "~"), true}, {row("~", " "), false}, {row(letters(1999), letters(2000)), true}, {row(letters(2000), letters(1999)), false}, {row(letters(2000), letters(2000)), false},
	} {
		parts := []any{len(c.texts)}
		for _, text := range c.texts {
			parts = append(parts, len(text), text)
		}
		cells := append(slices.Clone(parts), len(c.texts))
		var s impl.Sheet
		for i, text := range c.texts {
			cells = append(cells, 0, 1, i)
			s.Cells = append(s.Cells, impl.Cell{Row: 1, Col: 1 + i, Text: text})
		}
		cells = append(cells, 0)
		switch {
		case !c.rise:
			// Seen at the text: nothing needs to follow, and no checksum is asked for.
			wantErr(t, c.texts, bodyOf(parts...), impl.FileOrder)
			wantErr(t, c.texts, bodyOf(cells...), impl.FileOrder)
			wantErr(t, c.texts, fileOf(cells...), impl.FileOrder)
			wantErr(t, c.texts, append(bodyOf(cells...), 1, 2, 3, 4), impl.FileOrder)
		case slices.Contains(c.texts, ""):
			// An empty text may stand there, but in no cell.
			wantErr(t, c.texts, bodyOf(parts...), impl.FileShort)
			wantErr(t, c.texts, fileOf(cells...), impl.FileOrder)
			wantErr(t, c.texts, append(bodyOf(cells...), 1, 2, 3, 4), impl.FileSum)
		default:
			wantErr(t, c.texts, bodyOf(parts...), impl.FileShort)
			wantUnpacked(t, c.texts, fileOf(cells...), impl.PackedRes{Sheet: s})
		}
	}
}

func TestChecksumsOfFiles(t *testing.T) {
	for _, s := range somePacked() {
		data := walkedPacked(s)
		end := len(data) - 4
		for at := end; at < len(data); at++ {
			for b := range 256 {
				other := slices.Clone(data)
				other[at] = byte(b)
				if b != int(data[at]) {
					wantErr(t, at, other, impl.FileSum)
					wantErr(t, at, append(slices.Clone(other), 0), impl.FileSum)
					wantErr(t, at, other[:len(other)-1], impl.FileShort)
				}
			}
		}
		for _, sum := range [][]byte{{0, 0, 0, 0}, {255, 255, 255, 255}, {data[end+3], data[end+2], data[end+1], data[end]}} {
			wantErr(t, sum, append(slices.Clone(data[:end]), sum...), impl.FileSum)
		}
		for _, more := range [][]byte{{0}, {10}, {255}, data, make([]byte, 4), []byte("SH1\n")} {
			wantErr(t, more, append(slices.Clone(data), more...), impl.FileMore)
		}
	}
}

// TestFilesOfNoGoodSheet: they are read to the end, and are no good sheets then.
func TestFilesOfNoGoodSheet(t *testing.T) {
	for _, c := range []struct {
		what  string
		parts []any
	}{
		{"a cell twice", []any{1, 1, "x", 2, 0, 1, 0, 0, 0, 0, 0}}, {"a cell twice", []any{2, 1, "x", 1, "y", 3, 0, 1, 0, 4, 5, 1, 0, 0, 0, 0}}, {"an empty cell", []any{1, 0, 1, 0, 1, 0, 0}}, {"an empty cell", []any{2, 0, 1, "x", 2, 0, 1, 0, 0, 1, 1, 0}},
		{"a name in small letters", []any{2, 2, "=1", 3, "foo", 0, 1, 1, 0}}, {"a name that is none", []any{2, 2, "=1", 1, "?", 0, 1, 1, 0}}, {"an address", []any{2, 2, "=1", 2, "A1", 0, 1, 1, 0}}, {"a function's name", []any{2, 2, "=1", 3, "SUM", 0, 1, 1, 0}}, {"a form's name", []any{2, 2, "=1", 2, "IF", 0, 1, 1, 0}}, {"a name that is empty", []any{2, 0, 2, "=1", 0, 1, 0, 1}}, {"a name of 21 bytes", []any{2, 2, "=1", 21, strings.Repeat("N", 21), 0, 1, 1, 0}}, {"its text for a name", []any{1, 2, "=1", 0, 1, 0, 0}},
		{"a name's text without =", []any{2, 3, "FOO", 1, "x", 0, 1, 0, 1}}, {"a name's text that is empty", []any{2, 0, 3, "FOO", 0, 1, 1, 0}}, {"names that do not rise", []any{3, 2, "=1", 1, "X", 1, "Y", 0, 2, 2, 0, 1, 0}}, {"a name twice", []any{2, 2, "=1", 1, "X", 0, 2, 1, 0, 1, 0}}, {"a name twice", []any{3, 2, "=1", 2, "=2", 1, "X", 0, 2, 2, 0, 2, 1}},
		{"a text that is not used", []any{1, 1, "x", 0, 0}}, {"a text that is not used", []any{2, 1, "x", 1, "y", 1, 0, 1, 0, 0}}, {"a text that is not used", []any{2, 1, "x", 1, "y", 1, 0, 1, 1, 0}}, {"a text that is not used", []any{3, 2, "=1", 1, "X", 1, "y", 0, 1, 1, 0}}, {"an empty text that is not used", []any{1, 0, 0, 0}}, {"an empty text that is not used", []any{2, 0, 1, "x", 1, 0, 1, 1, 0}}, {"380 texts that are not used", append(append([]any{380}, countedTexts(380)...), 0, 0)},
	} {
		body := bodyOf(c.parts...)
		wantErr(t, c.what, summed(body), impl.FileOrder)
		// All else is told ahead of that.
		wantErr(t, c.what, body, impl.FileShort)
		wantErr(t, c.what, append(slices.Clone(body), 1, 2, 3, 4), impl.FileSum)
		wantErr(t, c.what, append(summed(body), 0), impl.FileMore)
	}
}

// countedTexts are texts that rise, each with its length.
func countedTexts(many int) []any {
	var out []any
	for i := range many {
		out = append(out, 3, fmt.Sprintf("%03d", i))
	}
	return out
}

// TestFirstFaultCounts has two faults each: the one that is met first is told.
func TestFirstFaultCounts(t *testing.T) {
	for _, c := range []struct {
		what string
		data []byte
		err  int
	}{
		{"a wrong first byte, and nothing else", []byte{0}, impl.FileCode},
		{"a wrong last byte of four, too many texts", append([]byte{83, 72, 49, 11}, 255, 127), impl.FileCode},
		{"too many texts, the end", bodyOf(381), impl.FileRange},
		{"too many texts in too many bytes", bodyOf([]byte{253, 131, 0}), impl.FileCode},
		{"too long a text, the end", bodyOf(1, 2001), impl.FileRange},
		{"a byte that may not be, then the end", bodyOf(1, 5, "a\x00"), impl.FileRange},
		{"the end ahead of a byte that may not be", bodyOf(1, 5, "a"), impl.FileShort},
		{"a text that does not rise, with a byte that may not be", bodyOf(2, 1, "b", 2, "a\x7f"), impl.FileRange},
		{"a text that does not rise, and its end lacks", bodyOf(2, 1, "b", 2, "a"), impl.FileShort},
		{"a text that does not rise, then too long a one", bodyOf(3, 1, "b", 1, "a", 2001), impl.FileOrder},
		{"too long a text, ahead of one that does not rise", bodyOf(3, 1, "b", 2001, 1, "a"), impl.FileRange},
		{"texts that do not rise, then too many cells", bodyOf(2, 1, "b", 1, "a", 301), impl.FileOrder},
		{"too many cells, in too many bytes", bodyOf(0, []byte{173, 130, 0}), impl.FileCode},
		{"a row beyond the last one, a column in too many bytes", bodyOf(1, 1, "x", 1, 1000, []byte{129, 0}), impl.FileRange},
		{"a row in too many bytes, a column beyond the last one", bodyOf(1, 1, "x", 1, []byte{129, 0}, 201), impl.FileCode},
		{"no column, a text's number in too many bytes", bodyOf(1, 1, "x", 1, 0, 0, []byte{128, 0}), impl.FileRange},
		{"a text's number that is none, the end", bodyOf(1, 1, "x", 1, 0, 1, 1), impl.FileRange},
		{"a cell twice, then a text's number that is none", bodyOf(1, 1, "x", 2, 0, 1, 0, 0, 0, 1), impl.FileRange},
		{"a cell twice, then too many names", bodyOf(1, 1, "x", 2, 0, 1, 0, 0, 0, 0, 41), impl.FileRange},
		{"a text that is not used, then a number in too many bytes", bodyOf(1, 1, "x", []byte{128, 0}, 0), impl.FileCode},
		{"a name that is none, then the end", bodyOf(1, 1, "x", 0, 1, 0, 0), impl.FileShort},
		{"another checksum of three bytes", append(bodyOf(0, 0, 0), 1, 2, 3), impl.FileShort},
		{"another checksum, and bytes behind it", append(bodyOf(0, 0, 0), 1, 2, 3, 4, 5), impl.FileSum},
		{"another checksum, and no good sheet", append(bodyOf(1, 0, 0, 0), 1, 2, 3, 4), impl.FileSum},
		{"bytes behind, and no good sheet", append(fileOf(1, 0, 0, 0), 9), impl.FileMore},
	} {
		wantErr(t, c.what, c.data, c.err)
	}
}

func TestChecksum(t *testing.T) {
	for text, want := range map[string]int{"": 1, "\x00": 1*65536 + 1, "\x01": 2*65536 + 2, "\x01\x02": 6*65536 + 4, "a": 0x00620062, "abc": 0x024d0127, "Wikipedia": 0x11e60398, "\xff\xff": 0x02ff01ff, "\x00\x00\x00\x00": 4*65536 + 1} {
		if got := impl.Checksum([]byte(text)); got != want {
			t.Errorf("Checksum(%q) = %#x, want %#x", text, got, want)
		}
	}
	random := rand.New(rand.NewSource(14))
	for _, size := range []int{0, 1, 2, 255, 256, 257, 258, 5551, 5552, 5553, 10000, 19999, 20000, 20001, 20002, 65521, 1000000} {
		noise := make([]byte, size)
		random.Read(noise)
		for _, data := range [][]byte{noise, make([]byte, size), slices.Repeat([]byte{255}, size), slices.Repeat([]byte{1}, size)} {
			was, want := slices.Clone(data), int(adler32.Checksum(data))
			if size > 20000 {
				want = 0
			}
			if got := impl.Checksum(data); got != want {
				t.Errorf("Checksum of %d bytes = %#x, want %#x", size, got, want)
			}
			if !bytes.Equal(data, was) {
				t.Errorf("%d bytes were written into", size)
			}
		}
	}
	if impl.Checksum(nil) != 1 || impl.Checksum([]byte{}) != 1 {
		t.Error("Checksum of no bytes")
	}
}

// TestFilesAreNewMemory writes into answers and arguments, and asks again.
func TestFilesAreNewMemory(t *testing.T) {
	for _, s := range somePacked() {
		want := walkedPacked(s)
		data := impl.PackSheet(s)
		_ = append(data, 1, 2, 3)
		clear(data)
		wantPacked(t, s, want)
		data = slices.Clone(want)
		one, other := impl.UnpackSheet(data), impl.UnpackSheet(data)
		clear(data)
		if !sameSheets(one.Sheet, s) {
			t.Errorf("%s when the bytes are written into", toldSheet(one.Sheet))
		}
		_, _ = append(one.Sheet.Cells, impl.Cell{Text: "?"}), append(one.Sheet.Names, impl.Named{Text: "?"})
		clear(one.Sheet.Cells)
		clear(one.Sheet.Names)
		if !sameSheets(other.Sheet, s) {
			t.Errorf("%s when another answer is written into", toldSheet(other.Sheet))
		}
	}
}
