package tests

import (
	"slices"
	"strconv"
	"strings"
	"testing"

	"loop.example/g00025/impl"
)

func TestNumbersByCell(t *testing.T) {
	checkCalls(t, [][]string{
		{"ABS", "3", "-3"}, {"ABS", "3", "3"}, {"ABS", "0", ""}, {"ABS", "1", "TRUE"}, {"ABS", "5", "' -5 "}, {"ABS", "#VALUE!", "a"}, {"ABS", "#VALUE!", "'"}, {"ABS", "#N/A", "#N/A"}, {"ABS", "1,2;3,#VALUE!", "-1,2;-3,x"}, {"ABS", top, bottom},
		{"SIGN", "-1", "-0.1"}, {"SIGN", "0", "0"}, {"SIGN", "1", "1E-300"}, {"SIGN", "1", "TRUE"}, {"SIGN", "0", ""}, {"SIGN", "#VALUE!", "a"}, {"SIGN", "-1;1", "-5;'5"},
		{"INT", "-2", "-1.5"}, {"INT", "1", "1.5"}, {"INT", "-1", "-1E-300"}, {"INT", "0", "1E-300"}, {"INT", "-2", "-2"}, {"INT", "3", "'3.99"}, {"INT", "-100000000000000", "-99999999999999.1"}, {"INT", "1E300", "1E300"}, {"INT", "0", "FALSE"}, {"INT", "#VALUE!", "x"}, {"INT", "-1", "-0.5"},
		{"ROUND", "-2.5", "-2.45", "1"}, {"ROUND", "2.5", "2.45", "1"}, {"ROUND", "3", "2.5", "0"}, {"ROUND", "1200", "1249", "-2"}, {"ROUND", "1300", "1250", "-2.9"}, {"ROUND", "2", "2.4", ""}, {"ROUND", "2.5", "2.45", "TRUE"}, {"ROUND", "2.5", "2.45", "'1"}, {"ROUND", "1E-300", "1E-300", "300"}, {"ROUND", "0", "1", "-300"}, {"ROUND", "#NUM!", "1", "301"}, {"ROUND", "#NUM!", "1", "-301"}, {"ROUND", "1", "1", "300.9"}, {"ROUND", "#NUM!", "0", "301"}, {"ROUND", "#NUM!", "1", "1E20"}, {"ROUND", "#VALUE!", "x", "1E20"}, {"ROUND", "#VALUE!", "1", "x"}, {"ROUND", "1E300", "1E300", "0"},
		{"ROUNDUP", "13", "12.1", "0"}, {"ROUNDUP", "-13", "-12.1", "0"}, {"ROUNDUP", "12", "12", "0"}, {"ROUNDUP", "100", "1", "-2"}, {"ROUNDUP", "0.2", "0.11", "1"}, {"ROUNDUP", "1E300", "1", "-300"}, {"ROUNDUP", "#NUM!", "1", "301"}, {"ROUNDUP", "0", "0", "-5"},
		{"ROUNDDOWN", "120", "129", "-1"}, {"ROUNDDOWN", "-12", "-12.9", "0"}, {"ROUNDDOWN", "0.1", "0.19", "1"}, {"ROUNDDOWN", "0", "99", "-2"}, {"ROUNDDOWN", "#NUM!", "1", "-301"},
		{"MOD", "1", "-5", "3"}, {"MOD", "-1", "5", "-3"}, {"MOD", "2", "5", "3"}, {"MOD", "-2", "-5", "-3"}, {"MOD", "0", "6", "3"}, {"MOD", "0.5", "5.5", "1"}, {"MOD", "#DIV/0!", "5", "0"}, {"MOD", "#DIV/0!", "0", ""}, {"MOD", "0", "", "5"}, {"MOD", "#NUM!", "1E300", "1E-300"}, {"MOD", "#VALUE!", "x", "0"}, {"MOD", "#VALUE!", "5", "x"}, {"MOD", "0.1", "1", "'0.3"}, {"MOD", "100000", "1E20", "3E5"},
		{"QUOTIENT", "-1", "-5", "3"}, {"QUOTIENT", "1", "5", "3"}, {"QUOTIENT", "0", "2", "3"}, {"QUOTIENT", "-2", "4", "-2"}, {"QUOTIENT", "#DIV/0!", "1", "0"}, {"QUOTIENT", "#DIV/0!", "", ""}, {"QUOTIENT", "#NUM!", "1E300", "1E-300"}, {"QUOTIENT", "#VALUE!", "x", "0"}, {"QUOTIENT", "0", "-0.5", "1"},
		{"POWER", "8", "2", "3"}, {"POWER", "0.125", "2", "-3"}, {"POWER", "3", "9", "0.5"}, {"POWER", "#NUM!", "0", "0"}, {"POWER", "#DIV/0!", "0", "-1"}, {"POWER", "#NUM!", "2", "0.3"}, {"POWER", "#NUM!", "-1", "0.5"}, {"POWER", "1", "1", "1000"}, {"POWER", "#NUM!", "1", "1001"}, {"POWER", "1", "5", ""}, {"POWER", "#VALUE!", "x", "2"}, {"POWER", "#NUM!", "10", "1000"}, {"POWER", "4", "'2", "'2"},
		{"SQRT", "3", "9"}, {"SQRT", "#NUM!", "-1"}, {"SQRT", "0", ""}, {"SQRT", "1.4142135623731", "2"}, {"SQRT", "1", "TRUE"}, {"SQRT", "#VALUE!", "x"}, {"SQRT", "1E-150", "1E-300"},
	})
}

func TestGridsByCell(t *testing.T) {
	checkCalls(t, [][]string{
		{"MOD", "1,2;0,0", "5;6", "2,3"}, {"ROUND", "1,1.3,1.26", "1.26", "0,1,2"}, {"ROUND", "1.3;2;#N/A", "1.26;2.14;3", "1;0"}, {"ROUND", "1,2,#N/A", "1.26,2.14,#REF!", "0,0"},
		{"POWER", "1,4,#N/A;9,16,#N/A;#N/A,#N/A,#N/A", "1,2;3,4", "2,2,2;2,2,2;2,2,2"}, {"LEFT", "a,b;ab,bc", "abc,bcd", "1;2"}, {"LEFT", "a;b", "abc;bcd"}, {"MID", "b,bc;c,cd", "abc,abcd", "2;3", "1,2"},
		{"FIND", "1,2;2,3", "a;b", "ab,cab"}, {"FIND", "1,#VALUE!;2,#VALUE!", "a;b", "ab,x"}, {"SUBSTITUTE", "xb,ab;x,ab", "ab", "a,z;ab,z", "x"}, {"EXACT", "TRUE,FALSE;FALSE,TRUE", "a;b", "a,b"},
		// Errors go first, wherever they stand, and then what is no number.
		{"ROUND", "#REF!,#N/A,#VALUE!", "x,#N/A,x", "#REF!,#REF!,x"}, {"MID", "#NUM!", "#NUM!", "#N/A", "#REF!"}, {"MID", "#REF!", "abc", "0", "#REF!"}, {"MID", "#REF!", "abc", "x", "#REF!"}, {"LEFT", "#N/A", "abc", "#N/A"}, {"FIND", "#N/A", "a", "b", "#N/A"}, {"SUBSTITUTE", "#N/A", "a", "", "b", "#N/A"}, {"DATE", "#N/A", "x", "1E20", "#N/A"}, {"EXACT", "#N/A", "a", "#N/A"}, {"EXACT", "#REF!", "#REF!", "#N/A"},
		{"NOT", "TRUE,FALSE;#VALUE!,#N/A", "0,5;x,#N/A"}, {"NOT", "TRUE,FALSE,TRUE,FALSE", ",'true,FALSE,TRUE"}, {"NOT", "#VALUE!,#VALUE!", "'1,'"},
		{"ISNUMBER", "TRUE,FALSE,FALSE;FALSE,FALSE,FALSE", "1,a,'1;TRUE,,#N/A"}, {"ISTEXT", "FALSE,TRUE,TRUE;FALSE,FALSE,TRUE", "1,a,'1;TRUE,#N/A,'"}, {"ISLOGICAL", "TRUE,FALSE;FALSE,FALSE", "FALSE,'TRUE;1,#N/A"}, {"ISBLANK", "TRUE,FALSE;FALSE,FALSE", ",';0,#N/A"}, {"ISERROR", "TRUE,TRUE,FALSE;FALSE,FALSE,FALSE", "#N/A,#REF!,'#N/A;,1,TRUE"}, {"ISNA", "TRUE,FALSE,FALSE;FALSE,FALSE,FALSE", "#N/A,#REF!,'#N/A;,1,TRUE"},
	})
	for _, text := range errorTexts {
		wantGrid(t, "ISERROR", text, called("ISERROR", text), gridOf("TRUE"))
		wantGrid(t, "ISNA", text, called("ISNA", text), gridOf(strings.ToUpper(strconv.FormatBool(text == "#N/A"))))
	}
}

// TestGreatGridsByCell: grids that are laid upon each other may come to 2000 cells.
func TestGreatGridsByCell(t *testing.T) {
	one := numVal("1")
	for _, c := range []struct {
		a, b [2]int
		good bool
	}{
		{[2]int{2000, 1}, [2]int{1, 1}, true}, {[2]int{1, 1}, [2]int{1, 2000}, true}, {[2]int{40, 1}, [2]int{1, 50}, true}, {[2]int{40, 50}, [2]int{2, 2}, true}, {[2]int{1000, 1}, [2]int{1, 2}, true},
		{[2]int{2000, 1}, [2]int{1, 2}, false}, {[2]int{1, 2000}, [2]int{2000, 1}, false}, {[2]int{3, 1}, [2]int{1, 667}, false}, {[2]int{45, 1}, [2]int{1, 45}, false},
	} {
		for _, name := range []string{"ROUND", "MOD", "LEFT", "REPT", "EXACT", "FIND", "EDATE"} {
			g := impl.CallFunction(name, []impl.Grid{fullGrid(c.a[0], c.a[1], one), fullGrid(c.b[0], c.b[1], one)})
			if !c.good {
				wantSingle(t, name, c, g, notThis)
				continue
			}
			if g.Rows != max(c.a[0], c.b[0]) || g.Cols != max(c.a[1], c.b[1]) || !impl.GoodGrid(g) {
				t.Errorf("%s of %v is of %d times %d", name, c, g.Rows, g.Cols)
			}
		}
	}
	three := impl.CallFunction("DATE", []impl.Grid{fullGrid(20, 1, one), fullGrid(1, 100, one), fullGrid(2, 2, one)})
	if three.Rows != 20 || three.Cols != 100 || three.Cells[0] != numVal("-730119") || three.Cells[2] != noCell {
		t.Errorf("three grids by cell: %d times %d, %v", three.Rows, three.Cols, three.Cells[:3])
	}
}

func TestTextsByCell(t *testing.T) {
	checkCalls(t, [][]string{
		{"LEN", "3", "abc"}, {"LEN", "0", ""}, {"LEN", "0", "'"}, {"LEN", "4", "TRUE"}, {"LEN", "5", "-12.5"}, {"LEN", "5", "1E20"}, {"LEN", "2", "'  "},
		{"LEFT", "a", "abc"}, {"LEFT", "'", "abc", "0"}, {"LEFT", "ab", "abc", "2"}, {"LEFT", "abc", "abc", "3"}, {"LEFT", "abc", "abc", "4"}, {"LEFT", "abc", "abc", "1E15"}, {"LEFT", "#VALUE!", "abc", "-1"}, {"LEFT", "'", "abc", "-0.9"}, {"LEFT", "a", "abc", "1.9"}, {"LEFT", "#NUM!", "abc", "1E30"}, {"LEFT", "#VALUE!", "abc", "x"}, {"LEFT", "'", "abc", ""}, {"LEFT", "a", "abc", "TRUE"}, {"LEFT", "ab", "abc", "'2"}, {"LEFT", "'1", "12"}, {"LEFT", "TR", "TRUE", "2"}, {"LEFT", "'", "", "5"}, {"LEFT", "'", ""},
		{"RIGHT", "c", "abc"}, {"RIGHT", "'", "abc", "0"}, {"RIGHT", "bc", "abc", "2"}, {"RIGHT", "abc", "abc", "3"}, {"RIGHT", "abc", "abc", "99"}, {"RIGHT", "#VALUE!", "abc", "-1"}, {"RIGHT", "#NUM!", "abc", "-1E30"}, {"RIGHT", "'5", "12.5"}, {"RIGHT", "'", "", "5"},
		{"MID", "bc", "abc", "2", "9"}, {"MID", "b", "abc", "2", "1"}, {"MID", "'", "abc", "2", "0"}, {"MID", "'", "abc", "4", "1"}, {"MID", "'", "abc", "99", "1"}, {"MID", "c", "abc", "3", "1"}, {"MID", "abc", "abc", "1", "3"}, {"MID", "abc", "abc", "1.9", "1E15"}, {"MID", "#VALUE!", "abc", "0", "1"}, {"MID", "#VALUE!", "abc", "-1", "1"}, {"MID", "#VALUE!", "abc", "1", "-1"}, {"MID", "#VALUE!", "abc", "99", "-1"}, {"MID", "#NUM!", "abc", "1E30", "-1"}, {"MID", "#NUM!", "abc", "0", "1E30"}, {"MID", "#VALUE!", "abc", "x", "1E30"}, {"MID", "#VALUE!", "abc", "", "1"}, {"MID", "'", "abc", "1", ""}, {"MID", "'23", "1234", "2", "2"}, {"MID", "'", "abc", "1E18", "1E18"},
		{"UPPER", "AB1{", "aB1{"}, {"UPPER", "'TRUE", "'true"}, {"LOWER", "ab1[", "aB1["}, {"UPPER", "'1E+20", "'1e+20"}, {"LOWER", "'1e+20", "1E20"}, {"LOWER", "'true", "TRUE"}, {"UPPER", "'", ""},
		{"TRIM", "a b", "'  a   b "}, {"TRIM", "'", "'   "}, {"TRIM", "'", ""}, {"TRIM", "a", "a"}, {"TRIM", "a b c", "a b  c"}, {"TRIM", "'12", "12"},
		{"FIND", "4", "a", "abca", "2"}, {"FIND", "1", "a", "abca"}, {"FIND", "1", "a", "abca", "1"}, {"FIND", "4", "a", "abca", "4"}, {"FIND", "#VALUE!", "a", "abca", "5"}, {"FIND", "#VALUE!", "a", "abca", "6"}, {"FIND", "#VALUE!", "a", "abca", "0"}, {"FIND", "#VALUE!", "A", "abc"}, {"FIND", "1", "", "abc"}, {"FIND", "3", "", "abc", "3"}, {"FIND", "4", "", "abc", "4"}, {"FIND", "#VALUE!", "", "abc", "5"}, {"FIND", "1", "", ""}, {"FIND", "#VALUE!", "a", ""}, {"FIND", "#VALUE!", "", "abc", "-1"}, {"FIND", "2", "'2", "123"}, {"FIND", "2", "bc", "abc"}, {"FIND", "#VALUE!", "abcd", "abc"}, {"FIND", "#NUM!", "a", "abc", "1E30"}, {"FIND", "#VALUE!", "a", "abc", "1E15"}, {"FIND", "#VALUE!", "a", "abc", ""}, {"FIND", "2", "a", "aaa", "2.9"}, {"FIND", "#VALUE!", "a", "a", "x"}, {"FIND", "1", "TRUE", "TRUE"},
		{"SUBSTITUTE", "xbxb", "abab", "a", "x"}, {"SUBSTITUTE", "abxb", "abab", "a", "x", "2"}, {"SUBSTITUTE", "xbab", "abab", "a", "x", "1"}, {"SUBSTITUTE", "abab", "abab", "a", "x", "3"}, {"SUBSTITUTE", "abab", "abab", "a", "x", "1E15"}, {"SUBSTITUTE", "#VALUE!", "abab", "a", "x", "0"}, {"SUBSTITUTE", "#VALUE!", "abab", "", "x", "0"}, {"SUBSTITUTE", "#VALUE!", "abab", "a", "x", "-1"}, {"SUBSTITUTE", "#NUM!", "abab", "a", "x", "1E30"}, {"SUBSTITUTE", "#VALUE!", "abab", "a", "x", ""}, {"SUBSTITUTE", "abab", "abab", "", "x"}, {"SUBSTITUTE", "abab", "abab", "", "x", "1"}, {"SUBSTITUTE", "bb", "abab", "a", ""}, {"SUBSTITUTE", "xa", "aaa", "aa", "x"}, {"SUBSTITUTE", "aaa", "aaa", "aa", "x", "2"}, {"SUBSTITUTE", "aax", "aaaa", "aa", "x", "2"}, {"SUBSTITUTE", "aaaa", "aa", "a", "aa"}, {"SUBSTITUTE", "Abab", "Abab", "A", "A"}, {"SUBSTITUTE", "abab", "abab", "A", "x"}, {"SUBSTITUTE", "'1x3", "123", "2", "x"}, {"SUBSTITUTE", "'143", "123", "2", "4", "TRUE"}, {"SUBSTITUTE", "'", "", "a", "b"}, {"SUBSTITUTE", "'", "ab", "ab", ""}, {"SUBSTITUTE", "axbab", "aabab", "a", "x", "2.9"},
		{"REPT", "ababab", "ab", "3"}, {"REPT", "'", "ab", "0"}, {"REPT", "'", "ab", "0.9"}, {"REPT", "#VALUE!", "ab", "-1"}, {"REPT", "#VALUE!", "ab", "501"}, {"REPT", "'", "", "1E15"}, {"REPT", "#VALUE!", "", "-1"}, {"REPT", "#NUM!", "", "1E30"}, {"REPT", "#VALUE!", "a", "1E15"}, {"REPT", "#VALUE!", "a", "9E18"}, {"REPT", "'1212", "12", "2"}, {"REPT", "a", "a", "TRUE"}, {"REPT", "#VALUE!", "a", "x"},
		{"EXACT", "FALSE", "a", "A"}, {"EXACT", "TRUE", "a", "a"}, {"EXACT", "TRUE", "1", "'1"}, {"EXACT", "TRUE", "", "'"}, {"EXACT", "TRUE", "TRUE", "'TRUE"}, {"EXACT", "FALSE", "TRUE", "'true"}, {"EXACT", "FALSE", "", "0"}, {"EXACT", "FALSE", "1", "'1.0"},
		{"VALUE", "12", "'12"}, {"VALUE", "12", "12"}, {"VALUE", "-0.5", "' -0.5 "}, {"VALUE", "#VALUE!", "a"}, {"VALUE", "#VALUE!", ""}, {"VALUE", "#VALUE!", "TRUE"}, {"VALUE", "1E20", "1E20"}, {"VALUE", "#VALUE!", "'1 2"}, {"VALUE", "#N/A", "#N/A"}, {"VALUE", "#VALUE!", "'#N/A"}, {"VALUE", "123456789012346", "'123456789012345.6"},
	})
	wantSingle(t, "TRIM", "inner blanks", impl.CallFunction("TRIM", []impl.Grid{fullGrid(1, 1, wordsVal("  "+strings.Repeat(" a", 499)))}), wordsVal(strings.Repeat("a ", 498)+"a"))
}

// TestLettersByBytes has each byte that may be in a text, alone, in a row, and behind each other one.
func TestLettersByBytes(t *testing.T) {
	small := func(text string) string {
		out := ""
		for i := range len(text) {
			at := strings.IndexByte("ABCDEFGHIJKLMNOPQRSTUVWXYZ", text[i])
			if at < 0 {
				out += text[i : i+1]
				continue
			}
			out += "abcdefghijklmnopqrstuvwxyz"[at : at+1]
		}
		return out
	}
	check := func(text string) {
		got := impl.CallFunction("LOWER", []impl.Grid{fullGrid(1, 1, wordsVal(text))})
		wantSingle(t, "LOWER", text, got, wordsVal(small(text)))
		// Capitals of the small letters are those of the text.
		wantGrid(t, "UPPER", text, impl.CallFunction("UPPER", []impl.Grid{got}), impl.CallFunction("UPPER", []impl.Grid{fullGrid(1, 1, wordsVal(text))}))
	}
	check("")
	check(allBytes())
	check(strings.Repeat(allBytes(), 10))
	check(strings.Repeat("Z", 1000))
	for a := 32; a <= 126; a++ {
		check(string(rune(a)))
		for b := 32; b <= 126; b++ {
			check(string(rune(b)) + string(rune(a)))
		}
	}
}

func TestTextsAtTheLimit(t *testing.T) {
	text := func(s string) impl.Grid { return fullGrid(1, 1, wordsVal(s)) }
	full := text(letters(1000))
	for _, c := range []struct {
		name string
		args []impl.Grid
		want impl.Value
	}{
		{"LEN", []impl.Grid{full}, numVal("1000")}, {"LEFT", []impl.Grid{full, gridOf("1000")}, full.Cells[0]}, {"LEFT", []impl.Grid{full, gridOf("1001")}, full.Cells[0]}, {"RIGHT", []impl.Grid{full, gridOf("999")}, wordsVal(letters(999))}, {"MID", []impl.Grid{full, gridOf("1000"), gridOf("2")}, wordsVal("x")}, {"UPPER", []impl.Grid{full}, wordsVal(strings.Repeat("X", 1000))},
		{"FIND", []impl.Grid{text("x"), full, gridOf("1000")}, numVal("1000")}, {"FIND", []impl.Grid{text("x"), full, gridOf("1001")}, notThis}, {"FIND", []impl.Grid{text(""), full, gridOf("1001")}, numVal("1001")}, {"FIND", []impl.Grid{text(""), full, gridOf("1002")}, notThis},
		{"REPT", []impl.Grid{text("ab"), gridOf("500")}, wordsVal(strings.Repeat("ab", 500))}, {"REPT", []impl.Grid{text("x"), gridOf("1000")}, full.Cells[0]}, {"REPT", []impl.Grid{text("x"), gridOf("1001")}, notThis}, {"REPT", []impl.Grid{text("abc"), gridOf("333")}, wordsVal(strings.Repeat("abc", 333))}, {"REPT", []impl.Grid{text("abc"), gridOf("334")}, notThis}, {"REPT", []impl.Grid{full, gridOf("1")}, full.Cells[0]}, {"REPT", []impl.Grid{full, gridOf("2")}, notThis}, {"REPT", []impl.Grid{full, gridOf("0")}, wordsVal("")},
		{"SUBSTITUTE", []impl.Grid{text("a" + letters(998)), text("a"), text("bc")}, wordsVal("bc" + letters(998))}, {"SUBSTITUTE", []impl.Grid{text("a" + letters(999)), text("a"), text("bc")}, notThis}, {"SUBSTITUTE", []impl.Grid{text("a" + letters(998)), text("a"), text("bcd")}, notThis}, {"SUBSTITUTE", []impl.Grid{full, text("x"), full}, notThis}, {"SUBSTITUTE", []impl.Grid{text("xa"), text("a"), text(letters(999)), gridOf("1")}, full.Cells[0]}, {"SUBSTITUTE", []impl.Grid{text("xxa"), text("a"), text(letters(999)), gridOf("1")}, notThis}, {"SUBSTITUTE", []impl.Grid{full, text("x"), text("")}, wordsVal("")}, {"SUBSTITUTE", []impl.Grid{full, text("x"), text("yy"), gridOf("1001")}, full.Cells[0]}, {"SUBSTITUTE", []impl.Grid{full, full, full}, full.Cells[0]},
	} {
		wantSingle(t, c.name, c.args, impl.CallFunction(c.name, c.args), c.want)
	}
}

func TestDatesByCell(t *testing.T) {
	checkCalls(t, [][]string{
		{"DATE", "0", "2000", "1", "1"}, {"DATE", "60", "2000", "2", "30"}, {"DATE", "366", "2000", "13", "1"}, {"DATE", "-1", "2000", "1", "0"}, {"DATE", "-31", "2000", "0", "1"}, {"DATE", "-32", "2000", "0", "0"}, {"DATE", "365", "2000", "12", "31"}, {"DATE", "0", "2000.9", "1.9", "'1.9"}, {"DATE", "-366", "1999", "0", "31"}, {"DATE", "31", "2000", "TRUE", "32"},
		// The last days, and one beyond.
		{"DATE", "1000000", "2000", "1", "1000001"}, {"DATE", "#NUM!", "2000", "1", "1000002"}, {"DATE", "-1000000", "2000", "1", "-999999"}, {"DATE", "#NUM!", "2000", "1", "-1000000"}, {"DATE", "1000000", "4737", "11", "28"}, {"DATE", "#NUM!", "4737", "11", "29"},
		// Years, months and days at their ends; the days bring back what is beyond the last day.
		{"DATE", "#NUM!", "9999", "1", "1"}, {"DATE", "#NUM!", "-5000", "1", "1"}, {"DATE", "921574", "9999", "1", "-2000000"}, {"DATE", "443302", "-5000", "1", "3000000"}, {"DATE", "#NUM!", "-5000", "1", "3000001"}, {"DATE", "-78426", "9999", "1", "-3000000"}, {"DATE", "#NUM!", "9999", "1", "-3000001"}, {"DATE", "#NUM!", "-5001", "1", "3000000"}, {"DATE", "#NUM!", "-5001", "25", "3000000"}, {"DATE", "#NUM!", "10000", "1", "-3000000"}, {"DATE", "#NUM!", "10000", "-23", "-3000000"},
		{"DATE", "#NUM!", "9999", "13", "-3000000"}, {"DATE", "-78092", "9999", "12", "-3000000"}, {"DATE", "#NUM!", "-5000", "0", "3000000"}, {"DATE", "486959", "-5000", "100000", "1"}, {"DATE", "#NUM!", "-5000", "100001", "1"}, {"DATE", "#NUM!", "-5000", "1E15", "1"}, {"DATE", "-122112", "9999", "-99999", "1"}, {"DATE", "#NUM!", "9999", "-100000", "1"}, {"DATE", "#NUM!", "9999", "-1E15", "1"}, {"DATE", "#NUM!", "1E15", "1", "1"}, {"DATE", "#NUM!", "2000", "1", "1E15"},
		{"DATE", "#NUM!", "1E30", "x", "1"}, {"DATE", "#VALUE!", "2000", "x", "1E30"}, {"DATE", "#VALUE!", "9E9", "1", "x"}, {"DATE", "0;366", "2000;2001", "1", "1"}, {"DATE", "-730485", "", "1", "1"},
		{"YEAR", "2000", "60"}, {"MONTH", "3", "60.9"}, {"DAY", "1", "60"}, {"DAY", "31", "-1"}, {"MONTH", "12", "-1"}, {"YEAR", "1999", "-1"}, {"YEAR", "2000", "-0.9"}, {"YEAR", "2000", ""}, {"DAY", "2", "TRUE"}, {"DAY", "29", "'59"},
		{"YEAR", "4737", "1000000"}, {"MONTH", "11", "1000000"}, {"DAY", "28", "1000000"}, {"YEAR", "-738", "-1000000"}, {"YEAR", "4737", "1000000.9"}, {"YEAR", "#NUM!", "1000001"}, {"MONTH", "#NUM!", "1000001"}, {"DAY", "#NUM!", "-1000001"}, {"WEEKDAY", "#NUM!", "1000001"}, {"WEEKDAY", "#NUM!", "-1000001"}, {"YEAR", "#NUM!", "1E30"}, {"YEAR", "#VALUE!", "x"}, {"DAY", "#N/A", "#N/A"}, {"YEAR", "2000,#NUM!;#VALUE!,#REF!", "1,1E7;x,#REF!"},
		{"WEEKDAY", "6", "0"}, {"WEEKDAY", "7,1,2,3,4,5,6", "1,2,3,4,5,6,7"}, {"WEEKDAY", "5", "-1"}, {"WEEKDAY", "6", "-0.5"},
		{"EDATE", "59", "30", "1"}, {"EDATE", "28", "59", "-1.9"}, {"EDATE", "0", "0", ""}, {"EDATE", "366", "0", "12"}, {"EDATE", "-366", "-1", "-12"}, {"EDATE", "59", "59.9", "0.9"}, {"EDATE", "31", "", "TRUE"},
		{"EDATE", "#NUM!", "1000000", "1"}, {"EDATE", "999969", "1000000", "-1"}, {"EDATE", "#NUM!", "-1000000", "-1"}, {"EDATE", "#NUM!", "1000001", "-1"}, {"EDATE", "#NUM!", "0", "100001"}, {"EDATE", "#NUM!", "0", "1E30"}, {"EDATE", "#NUM!", "0", "-100000"}, {"EDATE", "#NUM!", "1E30", "x"}, {"EDATE", "#VALUE!", "0", "x"}, {"EDATE", "#VALUE!", "x", "1E30"}, {"EDATE", "#NUM!", "-1000001", "1"}, {"EDATE", "30;59", "30", "0;1"},
	})
}

func TestNetworkdays(t *testing.T) {
	checkCalls(t, [][]string{
		{"NETWORKDAYS", "6", "0", "9"}, {"NETWORKDAYS", "-6", "9", "0"}, {"NETWORKDAYS", "0", "0", "1"}, {"NETWORKDAYS", "1", "2", "2"}, {"NETWORKDAYS", "5", "0", "9", "2"}, {"NETWORKDAYS", "4", "0", "9", "2,3;2,a"}, {"NETWORKDAYS", "6", "0", "9", "0,1;99,-5"}, {"NETWORKDAYS", "5", "0", "9", "2.9"}, {"NETWORKDAYS", "6", "0", "9", "'2,TRUE;,x"}, {"NETWORKDAYS", "6", "0", "9", ""}, {"NETWORKDAYS", "6", "0.9", "'9.9"}, {"NETWORKDAYS", "6", "0,x;5,5", "9,#N/A"}, {"NETWORKDAYS", "6", "0", "9", "1E15"}, {"NETWORKDAYS", "-5", "9", "0", "2"},
		{"NETWORKDAYS", "1428571", "-1000000", "1000000"}, {"NETWORKDAYS", "#NUM!", "-1000001", "0"}, {"NETWORKDAYS", "#NUM!", "0", "1000001"}, {"NETWORKDAYS", "#NUM!", "1E30", "x"}, {"NETWORKDAYS", "#VALUE!", "0", "x"}, {"NETWORKDAYS", "#VALUE!", "x", "1E30"}, {"NETWORKDAYS", "#VALUE!", "x", "0", "#N/A"},
		{"NETWORKDAYS", "#N/A", "0", "9", "1,#N/A;#REF!,2"}, {"NETWORKDAYS", "#N/A", "0", "1E7", "1,#N/A;#REF!,2"}, {"NETWORKDAYS", "#N/A", "0", "9", "1E30,#N/A"}, {"NETWORKDAYS", "#NUM!", "0", "9", "1E30"}, {"NETWORKDAYS", "#NUM!", "0", "1E30", "#N/A"}, {"NETWORKDAYS", "#REF!", "0", "#REF!", "#N/A"},
	})
	free := func(n int, more ...impl.Value) impl.Grid {
		cells := slices.Concat(slices.Repeat([]impl.Value{numVal("2")}, n), more)
		return impl.Grid{Rows: len(cells), Cols: 1, Cells: cells}
	}
	for _, c := range []struct {
		free impl.Grid
		want impl.Value
	}{
		{free(1000), numVal("5")}, {free(1001), noNumber}, {free(1000, wordsVal("3"), yes, empty), numVal("5")}, {free(2000), noNumber}, {free(1001, noCell), noCell}, {free(1000, wordsVal("x"), numVal("3")), noNumber},
	} {
		wantSingle(t, "NETWORKDAYS", c.free.Rows, impl.CallFunction("NETWORKDAYS", []impl.Grid{gridOf("0"), gridOf("9"), c.free}), c.want)
	}
}
