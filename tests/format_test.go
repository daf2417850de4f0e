package tests

import (
	"math"
	"slices"
	"strings"
	"testing"

	"loop.example/g00025/impl"
)

type format = impl.Format

func TestConstantOfFormats(t *testing.T) {
	if impl.MaxFormat != 100 {
		t.Errorf("MaxFormat %d", impl.MaxFormat)
	}
}

// quoted is a text of so many bytes in its signs.
func quoted(n int) string { return `"` + letters(n) + `"` }

// longestCode has as many bytes as a code may have.
func longestCode() string {
	side := quoted(20) + "0" + quoted(20)
	return side + ";" + side + ";" + quoted(5) + "0"
}

// goodCodes has codes with what they are read as.
func goodCodes() map[string][]format {
	one := format{Whole: 1}
	return map[string][]format{
		"0":         {one},
		"00":        {{Whole: 2}},
		"000000000": {{Whole: 9}},
		"#,0":       {{Group: true, Whole: 1}},
		"#,0000":    {{Group: true, Whole: 4}},
		"0.0":       {{Whole: 1, Places: 1}},
		"0.#":       {{Whole: 1, Maybe: 1}},
		"0.0#":      {{Whole: 1, Places: 1, Maybe: 1}},
		"0%":        {{Whole: 1, Times: 1}},
		"0%%":       {{Whole: 1, Times: 2}},
		"0%%%":      {{Whole: 1, Times: 3}},
		"0.0%":      {{Whole: 1, Places: 1, Times: 1}},
		"0.#%":      {{Whole: 1, Maybe: 1, Times: 1}},
		"0.##%%":    {{Whole: 1, Maybe: 2, Times: 2}},

		"0.000000000":          {{Whole: 1, Places: 9}},
		"0.#########":          {{Whole: 1, Maybe: 9}},
		"0.000000000#########": {{Whole: 1, Places: 9, Maybe: 9}},
		"#,000000000.000000000#########%%%": {
			{Group: true, Whole: 9, Places: 9, Maybe: 9, Times: 3},
		},

		`"a"0`:                               {{Before: "a", Whole: 1}},
		`0"a"`:                               {{After: "a", Whole: 1}},
		`"a"0"b"`:                            {{Before: "a", After: "b", Whole: 1}},
		`" "0" "`:                            {{Before: " ", After: " ", Whole: 1}},
		`"~"0"!"`:                            {{Before: "~", After: "!", Whole: 1}},
		`"0;0"0";"`:                          {{Before: "0;0", After: ";", Whole: 1}},
		`";"0;0";"`:                          {{Before: ";", Whole: 1}, {After: ";", Whole: 1}},
		`"#,0.0#%"yyyy"dd"`:                  {{Before: "#,0.0#%", After: "dd", Date: "yyyy"}},
		`0%"%"`:                              {{After: "%", Whole: 1, Times: 1}},
		`"-"#,00.0##%%"'"`:                   {{Before: "-", After: "'", Group: true, Whole: 2, Places: 1, Maybe: 2, Times: 2}},
		quoted(20) + "0":                     {{Before: letters(20), Whole: 1}},
		"0" + quoted(20):                     {{After: letters(20), Whole: 1}},
		quoted(20) + "yyyy" + quoted(20):     {{Before: letters(20), After: letters(20), Date: "yyyy"}},
		quoted(1) + "#,0.0" + quoted(1):      {{Before: "x", After: "x", Group: true, Whole: 1, Places: 1}},
		quoted(20) + "0.#%" + quoted(20):     {{Before: letters(20), After: letters(20), Whole: 1, Maybe: 1, Times: 1}},
		quoted(19) + "0.0#" + quoted(1):      {{Before: letters(19), After: "x", Whole: 1, Places: 1, Maybe: 1}},
		`"` + strings.Repeat(" ", 20) + `"0`: {{Before: strings.Repeat(" ", 20), Whole: 1}},

		"yyyy":    {{Date: "yyyy"}},
		"yy":      {{Date: "yy"}},
		"mm":      {{Date: "mm"}},
		"m":       {{Date: "m"}},
		"dd":      {{Date: "dd"}},
		"d":       {{Date: "d"}},
		"hh":      {{Date: "hh"}},
		"nn":      {{Date: "nn"}},
		"ss":      {{Date: "ss"}},
		"yyyyyy":  {{Date: "yyyyyy"}},
		"mmm":     {{Date: "mmm"}},
		"ddddd":   {{Date: "ddddd"}},
		"m-/:. d": {{Date: "m-/:. d"}},
		"d-":      {{Date: "d-"}},
		"d/":      {{Date: "d/"}},
		"d:":      {{Date: "d:"}},
		"d.":      {{Date: "d."}},
		"d ":      {{Date: "d "}},
		"d   ":    {{Date: "d   "}},
		`d "0"`:   {{After: "0", Date: "d "}},
		`"x"d"y"`: {{Before: "x", After: "y", Date: "d"}},

		"yyyy-mm-dd hh:nn":     {{Date: "yyyy-mm-dd hh:nn"}},
		"yyyy-mm-dd hh:nn:ss":  {{Date: "yyyy-mm-dd hh:nn:ss"}},
		"yyyy-mm-dd hh:nn:ss ": {{Date: "yyyy-mm-dd hh:nn:ss "}},
		"hhnnss":               {{Date: "hhnnss"}},
		"yyyymmddhhnnss":       {{Date: "yyyymmddhhnnss"}},

		strings.Repeat("yyyy", 12):         {{Date: strings.Repeat("yyyy", 12)}},
		strings.Repeat("m", 24):            {{Date: strings.Repeat("m", 24)}},
		strings.Repeat("m", 23):            {{Date: strings.Repeat("m", 23)}},
		strings.Repeat("d/", 6):            {{Date: strings.Repeat("d/", 6)}},
		"d" + strings.Repeat(" ", 11):      {{Date: "d" + strings.Repeat(" ", 11)}},
		"ss" + strings.Repeat("-", 11):     {{Date: "ss" + strings.Repeat("-", 11)}},
		"yyyy" + strings.Repeat(".nn", 5):  {{Date: "yyyy" + strings.Repeat(".nn", 5)}},
		"yyyy-mm-dd hh:nn:" + quoted(1):    {{Date: "yyyy-mm-dd hh:nn:", After: "x"}},
		"yyyy-mm-dd hh:nn:;0":              {{Date: "yyyy-mm-dd hh:nn:"}, one},
		strings.Repeat("yyyy", 12) + ";dd": {{Date: strings.Repeat("yyyy", 12)}, {Date: "dd"}},

		"0;0":                   {one, one},
		"0;0;0":                 {one, one, one},
		"0;yyyy":                {one, {Date: "yyyy"}},
		"yyyy;0;hh":             {{Date: "yyyy"}, one, {Date: "hh"}},
		`0.0;"("0.0")";"none"0`: {{Whole: 1, Places: 1}, {Before: "(", After: ")", Whole: 1, Places: 1}, {Before: "none", Whole: 1}},
		`#,0%;00;0.#`:           {{Group: true, Whole: 1, Times: 1}, {Whole: 2}, {Whole: 1, Maybe: 1}},

		longestCode(): {
			{Before: letters(20), After: letters(20), Whole: 1},
			{Before: letters(20), After: letters(20), Whole: 1},
			{Before: letters(5), Whole: 1},
		},
	}
}

func TestReadFormat(t *testing.T) {
	if n := len(longestCode()); n != impl.MaxFormat {
		t.Errorf("the longest code has %d bytes", n)
	}
	for code, want := range goodCodes() {
		checkCode(t, code, want)
	}
}

// checkCode asks that a code is read as these, that they are told as it, and that it is read alike again.
func checkCode(t *testing.T, code string, want []format) {
	t.Helper()
	list := impl.ReadFormat(code)
	if !slices.Equal(list, want) {
		t.Errorf("ReadFormat(%q) = %v, want %v", code, list, want)
		return
	}
	told := impl.FormatCode(list)
	if told != code {
		t.Errorf("FormatCode(%v) = %q, want %q", want, told, code)
	}
	if !slices.Equal(list, want) {
		t.Errorf("FormatCode wrote into its list: %v, was %v", list, want)
	}
	again := impl.ReadFormat(told)
	if len(list) > 0 && len(again) > 0 {
		again[0].Before += "y"
		if list[0] != want[0] {
			t.Errorf("ReadFormat(%q) twice: one list", code)
		}
	}
}

func checkNoCode(t *testing.T, code string) {
	t.Helper()
	if list := impl.ReadFormat(code); len(list) != 0 {
		t.Errorf("ReadFormat(%q) = %v, want nothing", code, list)
	}
	for _, v := range []impl.Value{numVal("-1234.5"), numVal("0"), numVal("1E+20"), wordsVal("x"), yes, noCell, empty} {
		if got := impl.ShowBy(v, code); got != walkedText(v) {
			t.Errorf("ShowBy(%v, %q) = %q, want %q", v, code, got, walkedText(v))
		}
	}
}

// noCodes has a code for each fault.
func noCodes() []string {
	return []string{
		// no pattern
		"", " ", `"a"`, `"a""b"`, "#", "#,", "%", ".", ".0", ".#", "#.0", "-", "x", "bad",
		// digits
		"0000000000", "#,0000000000", "0.0000000000", "0.##########", "0.0##########", "0.0000000000#", "0.", "0.%", `0."a"`, "0..0", "0.0.0",
		"1", "09", "0.1", "-0", "+0", "0 ", " 0", "0 0", "0E0", "0,0",
		// groups
		"#0", "#,#0", "#,#,0", "##,0", ",0", "0#,", "#,.0", "#,%", "# ,0", "#,yyyy", "0#,0",
		// digits that may be left out
		"0#", "#0.0", "0.#0", "0.0#0", "0.#.#", "#.#",
		// percents
		"0%%%%", "%0", "0%0", "0%.0", "0.0%#", "0%#", "0% ", "0.%0", "d%",
		// texts
		`""0`, `0""`, `""0""`, `"a`, `a"`, `"a"0"`, `"a""b"0`, `0"a""b"`, `"a"0"b""c"`, `"0`, `0"`, `"`, `""`, `"""0`, `a0`, `0a`, `'a'0`, `"a" 0`, `0 "a"`, `"a"a0`,
		quoted(21) + "0", "0" + quoted(21), quoted(20) + "0" + quoted(21), quoted(22) + "d", "d" + quoted(21),
		"\"\x1f\"0", "\"\x7f\"0", "0\"\x1f\"", "0\"\x7f\"", "\"a\x00\"0", "\"\x80\"0", "\"\xff\"d", "\"\u00e9\"0", "\"\n\"0", "d\"\t\"",
		// dates
		"y", "yyy", "yyyyy", "yyyyyyy", "h", "n", "s", "hhh", "nnn", "sss", "-yy", "/d", ":hh", ".d", " d", "yyyy,mm", "Y", "YYYY", "MM", "D", "HH", "yyyy-mm-dd T", "d_m", "a", "dda", "d\t", "d\n", "d0", "0d", "d#", "d.0", "#,d", "d-\x00",
		strings.Repeat("yyyy", 13), strings.Repeat("m", 25), strings.Repeat("m", 26), strings.Repeat("d/", 6) + "d", "d" + strings.Repeat(" ", 12), "yyyy-mm-dd hh:nn:ss  ", "yyyy-mm-dd hh:nn:ss. ",
		"yyyy-mm-dd hh:nn.s",
		// sections
		";", "0;", ";0", "0;;0", "0;0;", ";0;0", ";;", "0;0;0;0", "0;0;0;", "0;0;0;0;0", "0,0", "0; 0", "0 ;0", `0;"a"`, `"a";0`, `";";0`, `0;";"`, "0;x", "x;0", "0;0;x", "0;0000000000", "d;y", "0:0", "0|0",
		// all of it
		longestCode() + "%", quoted(6) + "0;" + longestCode(), strings.Repeat("0", 101), strings.Repeat("0;", 500000), strings.Repeat(`"`, 100), strings.Repeat("y", 1000000),
	}
}

// TestLengthOfCodes: of two codes that differ in their length alone, the one within MaxFormat.
func TestLengthOfCodes(t *testing.T) {
	side := quoted(20) + "0" + quoted(20)
	for n := 1; n <= 20; n++ {
		code := side + ";" + side + ";" + quoted(n) + "0"
		want := []format{
			{Before: letters(20), After: letters(20), Whole: 1},
			{Before: letters(20), After: letters(20), Whole: 1},
			{Before: letters(n), Whole: 1},
		}
		if len(code) > impl.MaxFormat {
			checkNoCode(t, code)
			if got := impl.FormatCode(want); got != "" {
				t.Errorf("FormatCode(%v) = %q", want, got)
			}
			continue
		}
		checkCode(t, code, want)
	}
}

func TestNoCodes(t *testing.T) {
	for _, code := range noCodes() {
		checkNoCode(t, code)
	}
}

// TestBytesOfFormats: each byte in a text, and each as all there is.
func TestBytesOfFormats(t *testing.T) {
	for b := range 256 {
		text := string([]byte{byte(b)})
		good := b >= 32 && b <= 126 && b != '"'
		for _, f := range []format{{Before: text, Whole: 1}, {After: "a" + text, Whole: 1}, {Before: text + "a", Date: "d"}, {After: "a" + text + "a", Date: "d"}} {
			code := f.Date
			if f.Whole == 1 {
				code = "0"
			}
			if f.Before != "" {
				code = `"` + f.Before + `"` + code
			}
			if f.After != "" {
				code += `"` + f.After + `"`
			}
			if good {
				checkCode(t, code, []format{f})
				continue
			}
			checkNoCode(t, code)
			if got := impl.FormatCode([]format{f}); got != "" {
				t.Errorf("FormatCode(%v) = %q", f, got)
			}
		}
		if want := strings.Contains("0dm", text); want != (len(impl.ReadFormat(text)) == 1) {
			t.Errorf("ReadFormat(%q), want one %v", text, want)
		}
	}
}

// noFormats has formats that no code has.
func noFormats() []format {
	out := []format{
		{}, {Before: "a"}, {After: "a"}, {Before: "a", After: "b"}, {Group: true}, {Times: 1}, {Places: 1}, {Maybe: 1}, {Group: true, Places: 2},
		{Neg: true}, {Neg: true, Whole: 1}, {Neg: true, Date: "yyyy"}, {Neg: true, Group: true, Whole: 1, Before: "a"},
		{Whole: 10}, {Whole: 11}, {Whole: 1, Places: 10}, {Whole: 1, Maybe: 10}, {Whole: 1, Times: 4}, {Whole: 1, Times: 9}, {Whole: 1, Places: 10, Maybe: 10}, {Whole: 50}, {Whole: 1, Places: 5, Maybe: 50},
		{Whole: 1, Before: letters(21)}, {Whole: 1, After: letters(21)}, {Date: "d", Before: letters(21)}, {Date: "d", After: letters(21)}, {Whole: 1, Before: letters(1000000)}, {Whole: 1, After: letters(100)},
		{Whole: 1, Before: `"`}, {Whole: 1, After: `"`}, {Whole: 1, Before: `a"b`}, {Whole: 1, Before: `a"0;"b`}, {Whole: 1, After: `a";0"b`}, {Before: `a"0"b`}, {After: `a"0`}, {Before: `"0"`},
		{Whole: 1, Before: "\x1f"}, {Whole: 1, After: "\x7f"}, {Whole: 1, Before: "a\x00"}, {Whole: 1, After: "\u00e9"},
		{Date: "yyyy", Whole: 1}, {Date: "yyyy", Places: 1}, {Date: "yyyy", Maybe: 1}, {Date: "yyyy", Group: true}, {Date: "yyyy", Times: 1}, {Date: "yyyy", Whole: 1, Places: 1}, {Date: "yyyy", Whole: -1},
		{Date: "0"}, {Date: "#,0"}, {Date: "0.0#%"}, {Date: "0", Whole: 1}, {Date: "00", Whole: 1}, {Date: "%", Whole: 1}, {Date: ".0", Whole: 1}, {Date: "#"}, {Date: `"a"0`}, {Date: `0"a"`}, {Date: `d"a"`}, {Date: `"a"d`}, {Date: `d;d`}, {Date: "d;0"}, {Date: ";"}, {Date: `"`},
		{Date: "yyy"}, {Date: "-yy"}, {Date: " d"}, {Date: "y"}, {Date: "YYYY"}, {Date: "x"}, {Date: "d\x00"}, {Date: strings.Repeat("d/", 6) + "d"}, {Date: strings.Repeat("yyyy", 13)}, {Date: strings.Repeat("m", 25)}, {Date: strings.Repeat("m", 1000000)},
	}
	for _, n := range []int{-1, -2, -9, 100, 1 << 32, 1<<32 + 1, math.MaxInt, math.MinInt, math.MaxInt - 1} {
		out = append(out, format{Whole: n}, format{Whole: 1, Places: n}, format{Whole: 1, Maybe: n}, format{Whole: 1, Times: n}, format{Whole: n, Places: -n}, format{Whole: 1, Places: n, Maybe: -n},
			format{Whole: 1, Places: 1, Maybe: n}, format{Whole: 1, Places: n, Maybe: 1}, format{Whole: n, Places: n, Maybe: n, Times: n}, format{Date: "d", Times: n}, format{Date: "d", Whole: n})
	}
	return append(out, format{Places: 1, Maybe: 1}, format{Whole: 0, Maybe: 2, Times: 1})
}

func wantNoFormats(t *testing.T, list []format) {
	t.Helper()
	was := slices.Clone(list)
	if got := impl.FormatCode(list); got != "" {
		t.Errorf("FormatCode(%v) = %q, want none", list, got)
	}
	if !slices.Equal(list, was) {
		t.Errorf("FormatCode wrote into its list: %v, was %v", list, was)
	}
}

func TestNoFormats(t *testing.T) {
	good := format{Whole: 1}
	for _, f := range noFormats() {
		for _, list := range [][]format{{f}, {f, good}, {good, f}, {good, f, good}, {good, good, f}, {f, f, f}} {
			wantNoFormats(t, list)
		}
	}
}

func TestNumberOfFormats(t *testing.T) {
	good := format{Whole: 1}
	for n, want := range []string{"", "0", "0;0", "0;0;0", "", "", ""} {
		if got := impl.FormatCode(slices.Repeat([]format{good}, n)); got != want {
			t.Errorf("FormatCode of %d = %q, want %q", n, got, want)
		}
	}
	wantNoFormats(t, nil)
	wantNoFormats(t, []format{})
	wantNoFormats(t, slices.Repeat([]format{good}, 100000))
}
