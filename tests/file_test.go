package tests

import (
	"slices"
	"strings"
	"testing"

	"loop.example/g00025/impl"
)

var fileMarks = []string{",", ";", "\t"}

// noMarks: texts by which no fields are parted.
func noMarks() []string {
	return []string{"", " ", ".", ":", "|", "a", "\"", "\n", "\r", "\r\n", "\x00", "\x08", "\x0a", "\x0b", "\xff", "\x89", "\u002c\u0300", "\u037e", "\uff0c", ",,", ",;", ";;", "\t\t", ", ", " ,", "\t\n", ",\x00", "\\t", letters(50000), strings.Repeat(",", 50000)}
}

func sameRows(a, b [][]string) bool { return slices.EqualFunc(a, b, slices.Equal[[]string]) }

func clonedRows(rows [][]string) [][]string {
	out := slices.Clone(rows)
	for i, row := range out {
		out[i] = slices.Clone(row)
	}
	return out
}

// row and rows spare the tables of fields their types.
func row(fields ...string) []string { return fields }

func rows(list ...[]string) [][]string { return list }

// upTo100 keeps what is told of a long text short.
func upTo100(text string) string { return text[:min(len(text), 100)] }

func wantSeparated(t *testing.T, text, mark string, want impl.SeparatedRes) {
	t.Helper()
	got := impl.ReadSeparated(text, mark)
	if got.Err != want.Err || got.At != want.At || !sameRows(got.Rows, want.Rows) {
		t.Errorf("ReadSeparated(%q, %q), of %d bytes: %d at %d, %.200q, want %d at %d, %.200q", upTo100(text), mark, len(text), got.Err, got.At, got.Rows, want.Err, want.At, want.Rows)
	}
}

// withMark has a text's commas be another mark.
func withMark(text, mark string) string { return strings.ReplaceAll(text, ",", mark) }

func rowsWithMark(list [][]string, mark string) [][]string {
	out := clonedRows(list)
	for _, fields := range out {
		for i := range fields {
			fields[i] = withMark(fields[i], mark)
		}
	}
	return out
}

// wantRowsRead has a text and its rows by commas, and asks for them by each mark.
func wantRowsRead(t *testing.T, text string, want ...[]string) {
	t.Helper()
	for _, mark := range fileMarks {
		wantSeparated(t, withMark(text, mark), mark, impl.SeparatedRes{Rows: rowsWithMark(want, mark)})
	}
}

func wantNotRead(t *testing.T, text string, err, at int) {
	t.Helper()
	for _, mark := range fileMarks {
		wantSeparated(t, withMark(text, mark), mark, impl.SeparatedRes{Err: err, At: at})
	}
}

func TestConstantsOfFiles(t *testing.T) {
	got := []int{impl.MaxFile, impl.FileShort, impl.FileCode, impl.FileRange, impl.FileOrder, impl.FileSum, impl.FileMore}
	if want := []int{20000, 1, 2, 3, 4, 5, 6}; !slices.Equal(got, want) {
		t.Errorf("%v, want %v", got, want)
	}
}

func TestReadSeparated(t *testing.T) {
	for _, c := range []struct {
		text string
		want [][]string
	}{
		{"", nil}, {"a", rows(row("a"))}, {"a,b,c", rows(row("a", "b", "c"))}, {"a,b\nc,d", rows(row("a", "b"), row("c", "d"))}, {"a\nb,c\nd,e,f", rows(row("a"), row("b", "c"), row("d", "e", "f"))},
		// Blanks are part of a field, and so is all that means something elsewhere.
		{" a , b ", rows(row(" a ", " b "))}, {" ", rows(row(" "))}, {"'a,=1,#N/A,\\n,-", rows(row("'a", "=1", "#N/A", "\\n", "-"))}, {"a\x00b,\x00", rows(row("a\x00b", "\x00"))}, {"\x0b,\x0c,\x85", rows(row("\x0b", "\x0c", "\x85"))},
		// Empty fields; a row that ends with a mark.
		{",", rows(row("", ""))}, {",,", rows(row("", "", ""))}, {"a,", rows(row("a", ""))}, {",a", rows(row("", "a"))}, {"a,,b", rows(row("a", "", "b"))}, {"a,\nb,", rows(row("a", ""), row("b", ""))}, {"a,\r\nb,\r\n", rows(row("a", ""), row("b", ""))}, {",\n,", rows(row("", ""), row("", ""))}, {"\n,", rows(row(""), row("", ""))},
		// In `"`.
		{`"a"`, rows(row("a"))}, {`"a","b"`, rows(row("a", "b"))}, {`a,"b",c`, rows(row("a", "b", "c"))}, {`"a,b"`, rows(row("a,b"))}, {`"a,b",c`, rows(row("a,b", "c"))}, {`",",","`, rows(row(",", ","))}, {"\"a\nb\"", rows(row("a\nb"))}, {"\"a\r\nb\"", rows(row("a\r\nb"))}, {"\"a\rb\"", rows(row("a\rb"))}, {"\"\n\",\"\r\n\"\n\"\r\"", rows(row("\n", "\r\n"), row("\r"))}, {`" a "`, rows(row(" a "))},
		// A `"` that is told twice.
		{`""""`, rows(row(`"`))}, {`""""""`, rows(row(`""`))}, {`"a""b"`, rows(row(`a"b`))}, {`"""a"`, rows(row(`"a`))}, {`"a"""`, rows(row(`a"`))}, {`"""",""""`, rows(row(`"`, `"`))}, {`""",""",a`, rows(row(`","`, "a"))}, {"\"\"\"\n\"\"\"", rows(row("\"\n\""))}, {`"a"",""b"`, rows(row(`a","b`))},
		// An empty field in `"`, alone and beside others.
		{`""`, rows(row(""))}, {"\"\"\n", rows(row(""))}, {"\"\"\r\n\"\"", rows(row(""), row(""))}, {`"",a`, rows(row("", "a"))}, {`a,""`, rows(row("a", ""))}, {`"",""`, rows(row("", ""))}, {`,"",`, rows(row("", "", ""))},
	} {
		wantRowsRead(t, c.text, c.want...)
	}
}

func TestEndsOfRows(t *testing.T) {
	// The last row ends by a byte 10, by 13 10 or by nothing.
	for _, c := range []struct {
		text string
		want [][]string
	}{{"a", rows(row("a"))}, {"a,b", rows(row("a", "b"))}, {"a,", rows(row("a", ""))}, {`"a"`, rows(row("a"))}, {`""`, rows(row(""))}, {`"a,","b"""`, rows(row("a,", `b"`))}, {"a\nb", rows(row("a"), row("b"))}, {"a\r\nb", rows(row("a"), row("b"))}, {"\na", rows(row(""), row("a"))}, {"a\r", rows(row("a\r"))}} {
		if strings.HasSuffix(c.text, "\r") {
			// A byte 10 behind it would make another end of it.
			wantRowsRead(t, c.text, c.want...)
			wantRowsRead(t, c.text+"\r\n", c.want...)
			continue
		}
		for _, end := range []string{"", "\n", "\r\n"} {
			wantRowsRead(t, c.text+end, c.want...)
		}
		// Another end is one empty row more.
		for _, end := range []string{"\n\n", "\r\n\n", "\n\r\n", "\r\n\r\n"} {
			wantRowsRead(t, c.text+end, append(slices.Clone(c.want), row(""))...)
		}
	}
	for _, c := range []struct {
		text string
		want [][]string
	}{
		// Empty rows at the beginning, in the middle and at the end.
		{"\n", rows(row(""))}, {"\r\n", rows(row(""))}, {"\n\n", rows(row(""), row(""))}, {"\r\n\n\r\n", rows(row(""), row(""), row(""))}, {"\na", rows(row(""), row("a"))}, {"\r\na", rows(row(""), row("a"))}, {"a\n\nb", rows(row("a"), row(""), row("b"))}, {"a\r\n\r\nb", rows(row("a"), row(""), row("b"))}, {"a\n\n\nb\n", rows(row("a"), row(""), row(""), row("b"))}, {"a,b\n\nc,d\n\n", rows(row("a", "b"), row(""), row("c", "d"), row(""))}, {"\"a\"\n\n\"b\"", rows(row("a"), row(""), row("b"))},
		// A byte 13 that is not ahead of 10 is part of its field.
		{"\r", rows(row("\r"))}, {"a\r", rows(row("a\r"))}, {"a\rb", rows(row("a\rb"))}, {"\ra", rows(row("\ra"))}, {"\r\r", rows(row("\r\r"))}, {"\r\r\n", rows(row("\r"))}, {"a\r\r\nb", rows(row("a\r"), row("b"))}, {"\r,\r", rows(row("\r", "\r"))}, {"a,\r\n\r", rows(row("a", ""), row("\r"))}, {"\r\n\r", rows(row(""), row("\r"))}, {"\n\r", rows(row(""), row("\r"))}, {"\n\r\n", rows(row(""), row(""))}, {"\n\ra", rows(row(""), row("\ra"))}, {"\"a\r\"\r\nb", rows(row("a\r"), row("b"))},
	} {
		wantRowsRead(t, c.text, c.want...)
	}
}

// TestMarksAreOne: what parts fields is the mark that is given, and no other.
func TestMarksAreOne(t *testing.T) {
	text := "a,b;c\td"
	for mark, want := range map[string][]string{",": {"a", "b;c\td"}, ";": {"a,b", "c\td"}, "\t": {"a,b;c", "d"}} {
		wantSeparated(t, text, mark, impl.SeparatedRes{Rows: rows(want)})
		if got, told := impl.SeparatedText(rows(want), mark), text+"\n"; got != told {
			t.Errorf("%q by %q is told as %q, want %q", want, mark, got, told)
		}
	}
	wantSeparated(t, `"a";b`, ",", impl.SeparatedRes{Err: impl.FileCode, At: 3})
	wantSeparated(t, `"a",b`, ";", impl.SeparatedRes{Err: impl.FileCode, At: 3})
	wantSeparated(t, "\"a\"\tb", ",", impl.SeparatedRes{Err: impl.FileCode, At: 3})
	wantSeparated(t, "\"a\",b", "\t", impl.SeparatedRes{Err: impl.FileCode, At: 3})
	for _, mark := range noMarks() {
		for _, text := range []string{"", "a", "a,b", "a\n", `"`, `"a`, `a"`, `"a"b`, `"` + mark, "a" + mark + "b", letters(20000), letters(20001)} {
			wantSeparated(t, text, mark, impl.SeparatedRes{Err: impl.FileRange})
		}
		for _, list := range [][][]string{nil, {}, {{}}, {{"a"}}, {{"a", "b"}}, {{""}}, {{mark}}} {
			if got := impl.SeparatedText(list, mark); got != "" {
				t.Errorf("%q by %.100q is told as %q", list, mark, got)
			}
		}
	}
}

func TestTextsThatAreNotSeparated(t *testing.T) {
	for _, c := range []struct {
		text    string
		err, at int
	}{
		// Not closed: At is where the text ends.
		{`"`, impl.FileShort, 1}, {`"a`, impl.FileShort, 2}, {`"a,b`, impl.FileShort, 4}, {`"""`, impl.FileShort, 3}, {`"a""`, impl.FileShort, 4}, {`"a""b`, impl.FileShort, 5}, {`"""""`, impl.FileShort, 5}, {"\"a\n", impl.FileShort, 3}, {"\"a\r\nb\n", impl.FileShort, 6}, {`a,"`, impl.FileShort, 3}, {"a\n\"b", impl.FileShort, 4}, {`"a","b`, impl.FileShort, 6}, {"a,b\r\n\"\",\"", impl.FileShort, 9}, {"\"\xff\xfe", impl.FileShort, 3},
		// In a field that does not begin with it.
		{`a"`, impl.FileCode, 1}, {`a"b`, impl.FileCode, 1}, {`a"b"`, impl.FileCode, 1}, {`ab""`, impl.FileCode, 2}, {` "a"`, impl.FileCode, 1}, {`x,a"b`, impl.FileCode, 3}, {"x\nab\"", impl.FileCode, 4}, {"x\r\nab\"c", impl.FileCode, 5}, {"\r\"", impl.FileCode, 1}, {"a\r\"\n", impl.FileCode, 2}, {"\xc3\xa9\"", impl.FileCode, 2}, {"\xff\xe2\x82\"", impl.FileCode, 3}, {"\u20ac,\u20ac\"", impl.FileCode, 7}, {`"a",b"`, impl.FileCode, 5}, {",,a\"", impl.FileCode, 3},
		// Another byte behind a closing one.
		{`"a"b`, impl.FileCode, 3}, {`"a" `, impl.FileCode, 3}, {`"a" ,b`, impl.FileCode, 3}, {`""a`, impl.FileCode, 2}, {`"a"b"`, impl.FileCode, 3}, {`"a""" `, impl.FileCode, 5}, {`x,"a"b`, impl.FileCode, 5}, {"x\n\"a\".", impl.FileCode, 5}, {"\"a\"\r", impl.FileCode, 3}, {"\"a\"\rb", impl.FileCode, 3}, {"\"a\"\r\r\n", impl.FileCode, 3}, {"\"\"\r,", impl.FileCode, 2}, {"\"a\"\x00", impl.FileCode, 3}, {"\"a\"\xff", impl.FileCode, 3}, {"\"a\n\"\u20ac", impl.FileCode, 4}, {"\"\xff\"x", impl.FileCode, 3},
		// The first one ends it.
		{`a"b,"c`, impl.FileCode, 1}, {`"a"b,"c`, impl.FileCode, 3}, {`"a"b"c`, impl.FileCode, 3}, {`"a,b"c"`, impl.FileCode, 5}, {`"a,b""c`, impl.FileShort, 7},
	} {
		wantNotRead(t, c.text, c.err, c.at)
	}
}

func TestLongSeparatedTexts(t *testing.T) {
	fill := func(n int) string { return strings.Repeat("\"\"", n) }
	for _, c := range []struct {
		text string
		want impl.SeparatedRes
	}{
		{letters(19999), impl.SeparatedRes{Rows: rows(row(letters(19999)))}}, {letters(20000), impl.SeparatedRes{Rows: rows(row(letters(20000)))}}, {letters(19999) + "\n", impl.SeparatedRes{Rows: rows(row(letters(19999)))}}, {letters(19998) + "\r\n", impl.SeparatedRes{Rows: rows(row(letters(19998)))}},
		{quoted(19998), impl.SeparatedRes{Rows: rows(row(letters(19998)))}}, {`"` + fill(9999) + `"`, impl.SeparatedRes{Rows: rows(row(strings.Repeat(`"`, 9999)))}},
		{strings.Repeat("\n", 20000), impl.SeparatedRes{Rows: slices.Repeat(rows(row("")), 20000)}}, {strings.Repeat("\r\n", 10000), impl.SeparatedRes{Rows: slices.Repeat(rows(row("")), 10000)}}, {strings.Repeat(",", 20000), impl.SeparatedRes{Rows: rows(slices.Repeat(row(""), 20001))}}, {strings.Repeat("a,", 10000), impl.SeparatedRes{Rows: rows(append(slices.Repeat(row("a"), 10000), ""))}},
		{`"` + letters(19999), impl.SeparatedRes{Err: impl.FileShort, At: 20000}}, {letters(19999) + `"`, impl.SeparatedRes{Err: impl.FileCode, At: 19999}}, {quoted(19997) + "x", impl.SeparatedRes{Err: impl.FileCode, At: 19999}}, {`"` + fill(9999) + "x", impl.SeparatedRes{Err: impl.FileShort, At: 20000}},
		// One byte more, whatever else there is.
		{letters(20001), impl.SeparatedRes{Err: impl.FileRange}}, {letters(20000) + "\n", impl.SeparatedRes{Err: impl.FileRange}}, {strings.Repeat("\n", 20001), impl.SeparatedRes{Err: impl.FileRange}}, {quoted(19999), impl.SeparatedRes{Err: impl.FileRange}}, {`"` + letters(20000), impl.SeparatedRes{Err: impl.FileRange}}, {`a"` + letters(20000), impl.SeparatedRes{Err: impl.FileRange}}, {letters(500000), impl.SeparatedRes{Err: impl.FileRange}},
	} {
		wantSeparated(t, c.text, ",", c.want)
	}
}

// TestBytesOfFields: any byte may stand within `"`, and all but four outside of them.
func TestBytesOfFields(t *testing.T) {
	for b := range 256 {
		one := string([]byte{byte(b)})
		for _, mark := range fileMarks {
			wantSeparated(t, `"`+strings.ReplaceAll("a"+one+"b", `"`, `""`)+`"`, mark, impl.SeparatedRes{Rows: rows(row("a" + one + "b"))})
			want := impl.SeparatedRes{Rows: rows(row("a" + one + "b"))}
			switch one {
			case mark:
				want.Rows = rows(row("a", "b"))
			case "\n":
				want.Rows = rows(row("a"), row("b"))
			case `"`:
				want = impl.SeparatedRes{Err: impl.FileCode, At: 1}
			}
			wantSeparated(t, "a"+one+"b", mark, want)
			told := "a" + one + "b\n"
			if one == mark || one == "\n" || one == "\r" {
				told = `"a` + one + "b\"\n"
			} else if one == `"` {
				told = "\"a\"\"b\"\n"
			}
			if got := impl.SeparatedText(rows(row("a"+one+"b")), mark); got != told {
				t.Errorf("byte %d by %q is told as %q, want %q", b, mark, got, told)
			}
		}
	}
}

func wantToldRows(t *testing.T, list [][]string, mark, want string) {
	t.Helper()
	was := clonedRows(list)
	if got := impl.SeparatedText(list, mark); got != want {
		t.Errorf("%.200q by %q is told in %d bytes as %q, want %d, %q", list, mark, len(got), upTo100(got), len(want), upTo100(want))
	}
	if !sameRows(list, was) {
		t.Errorf("%.200q was written into", was)
	}
}

// wantTold has rows and their text by commas, and asks for it by each mark, and for the rows again.
func wantTold(t *testing.T, list [][]string, want string) {
	t.Helper()
	for _, mark := range fileMarks {
		marked, text := rowsWithMark(list, mark), withMark(want, mark)
		wantToldRows(t, marked, mark, text)
		if text != "" {
			wantSeparated(t, text, mark, impl.SeparatedRes{Rows: marked})
		}
	}
}

func TestSeparatedText(t *testing.T) {
	for _, c := range []struct {
		list [][]string
		want string
	}{
		{nil, ""}, {rows(), ""}, {rows(row("a")), "a\n"}, {rows(row("a", "b")), "a,b\n"}, {rows(row("a", "b"), row("c")), "a,b\nc\n"}, {rows(row("a"), row("b", "c", "d")), "a\nb,c,d\n"},
		// What needs no `"`.
		{rows(row(" a ", "=1", "'x", "#N/A", "-", "a.b:c|d")), " a ,=1,'x,#N/A,-,a.b:c|d\n"}, {rows(row("\x00\x1f\x7f\x80\xff", "\u20ac")), "\x00\x1f\x7f\x80\xff,\u20ac\n"}, {rows(row(" ")), " \n"}, {rows(row("\x0b", "\x0c")), "\x0b,\x0c\n"},
		// What needs it.
		{rows(row("a,b")), "\"a,b\"\n"}, {rows(row("a", ",")), "a,\",\"\n"}, {rows(row("a\nb", "c")), "\"a\nb\",c\n"}, {rows(row("a\rb")), "\"a\rb\"\n"}, {rows(row("\r\n")), "\"\r\n\"\n"}, {rows(row("\r")), "\"\r\"\n"}, {rows(row("\n")), "\"\n\"\n"}, {rows(row(`"`)), "\"\"\"\"\n"}, {rows(row(`a"b`, `"c"`)), "\"a\"\"b\",\"\"\"c\"\"\"\n"}, {rows(row(`""`)), "\"\"\"\"\"\"\n"}, {rows(row("x,\"\n\r")), "\"x,\"\"\n\r\"\n"},
		// An empty field is in `"` only where it stands alone.
		{rows(row("")), "\"\"\n"}, {rows(row(""), row("")), "\"\"\n\"\"\n"}, {rows(row("", "")), ",\n"}, {rows(row("", "a")), ",a\n"}, {rows(row("a", "")), "a,\n"}, {rows(row("a"), row(""), row("b")), "a\n\"\"\nb\n"}, {rows(row("", "", "")), ",,\n"},
		// A row has no field.
		{rows(row()), ""}, {rows(nil), ""}, {rows(row("a"), row()), ""}, {rows(row(), row("a")), ""}, {rows(row("a"), row(), row("b")), ""},
	} {
		wantTold(t, c.list, c.want)
	}
}

func TestLongRowsTold(t *testing.T) {
	for _, c := range []struct {
		list [][]string
		want string
	}{
		{rows(row(letters(19999))), letters(19999) + "\n"}, {rows(row(letters(20000))), ""}, {rows(row(letters(10000), letters(9998))), letters(10000) + "," + letters(9998) + "\n"}, {rows(row(letters(10000), letters(9999))), ""}, {rows(row(letters(10000)), row(letters(9998))), letters(10000) + "\n" + letters(9998) + "\n"}, {rows(row(letters(10000)), row(letters(9999))), ""}, {rows(row(letters(10000)), row(letters(9998)), row("")), ""},
		// Signs around a field count, and each that is told twice.
		{rows(row(letters(19996) + ",")), `"` + letters(19996) + ",\"\n"}, {rows(row(letters(19997) + ",")), ""}, {rows(row(letters(19995) + `"`)), `"` + letters(19995) + "\"\"\"\n"}, {rows(row(letters(19996) + `"`)), ""}, {rows(row(strings.Repeat(`"`, 9998) + "x")), `"` + strings.Repeat(`"`, 19996) + "x\"\n"}, {rows(row(strings.Repeat(`"`, 9999))), ""},
		// Marks and ends of rows count.
		{slices.Repeat(rows(row("a")), 10000), strings.Repeat("a\n", 10000)}, {slices.Repeat(rows(row("a")), 10001), ""}, {rows(slices.Repeat(row(""), 20000)), strings.Repeat(",", 19999) + "\n"}, {rows(slices.Repeat(row(""), 20001)), ""}, {slices.Repeat(rows(row("")), 6666), strings.Repeat("\"\"\n", 6666)}, {slices.Repeat(rows(row("")), 6667), ""},
		// A row without fields behind all that may be, and rows by the million.
		{rows(row(letters(19999)), row()), ""}, {slices.Repeat(rows(row("a")), 1000000), ""}, {rows(slices.Repeat(row(`"`), 1000000)), ""},
	} {
		wantTold(t, c.list, c.want)
	}
}

// TestRowsThatShareTheirFields: all fields together would be far more than could be kept.
func TestRowsThatShareTheirFields(t *testing.T) {
	for _, field := range []string{"a", "=", "\"", letters(20000), "=" + letters(10000000), strings.Repeat("\"", 10000000)} {
		many := slices.Repeat(rows(slices.Repeat(row(field), 1000000)), 1000000)
		for _, mark := range fileMarks {
			if got := impl.SeparatedText(many, mark); got != "" {
				t.Errorf("%q, again and again, is told in %d bytes", upTo100(field), len(got))
			}
		}
		if got := impl.SheetOfRows(many); len(got.Cells) > 0 {
			t.Errorf("%q, again and again, makes %d cells", upTo100(field), len(got.Cells))
		}
	}
}

// TestReadRowsAreNewMemory writes into each row of an answer, behind its end too, and asks for the others.
func TestReadRowsAreNewMemory(t *testing.T) {
	want := rows(row("a", "b"), row("c"), row("", "d", "e"))
	s := sheetOf("A1: a | B1: b | A2: c | B3: d | C3: e")
	for _, read := range []func() [][]string{
		func() [][]string { return impl.ReadSeparated("a,b\nc\n,d,e", ",").Rows },
		func() [][]string { return impl.RowsOfSheet(s) },
	} {
		first := clonedRows(read())
		for at := range want {
			list := read()
			_ = append(list[at], "x", "x", "x", "x")
			clear(list[at])
			for i := range list {
				if i != at && !slices.Equal(list[i], first[i]) {
					t.Errorf("row %d is %q when row %d is written into", i, list[i], at)
				}
			}
			if !sameRows(read(), first) {
				t.Errorf("%q after an answer was written into", read())
			}
		}
	}
	list := clonedRows(want)
	sheet := impl.SheetOfRows(list)
	for _, fields := range list {
		clear(fields)
	}
	if !sameSheets(sheet, s) {
		t.Errorf("%s when the rows are written into", toldSheet(sheet))
	}
}
