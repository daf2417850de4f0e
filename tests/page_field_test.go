package tests

import (
	"strings"
	"testing"

	"loop.example/g00025/impl"
)

func spaces(n int) string { return strings.Repeat(" ", n) }

func wantField(t *testing.T, v impl.Value, width int, want string) {
	t.Helper()
	if got := impl.CellField(v, width); got != want {
		t.Errorf("%.100v in %d: %q, want %q", v, width, got, want)
	}
}

// field is a value's one in a width.
type field struct {
	width int
	want  string
}

func checkFields(t *testing.T, v impl.Value, fields ...field) {
	t.Helper()
	for _, f := range fields {
		wantField(t, v, f.width, f.want)
	}
}

func TestFieldsOfTexts(t *testing.T) {
	checkFields(t, wordsVal("abcd"), field{4, "abcd"}, field{5, "abcd "}, field{6, "abcd  "}, field{3, "abc"}, field{2, "ab"}, field{1, "a"}, field{40, "abcd" + spaces(36)})
	checkFields(t, wordsVal("a"), field{1, "a"}, field{2, "a "}, field{40, "a" + spaces(39)})
	// They stay texts, whatever they look like.
	checkFields(t, wordsVal("1234"), field{4, "1234"}, field{5, "1234 "}, field{3, "123"}, field{1, "1"})
	checkFields(t, wordsVal("-1"), field{1, "-"}, field{2, "-1"}, field{4, "-1  "})
	checkFields(t, wordsVal("TRUE"), field{4, "TRUE"}, field{6, "TRUE  "}, field{3, "TRU"})
	checkFields(t, wordsVal("#N/A"), field{4, "#N/A"}, field{7, "#N/A   "}, field{3, "#N/"})
	// Blanks of a text are of it.
	checkFields(t, wordsVal("  a b  "), field{1, " "}, field{3, "  a"}, field{4, "  a "}, field{7, "  a b  "}, field{9, "  a b    "})
	for n := range 40 {
		long := strings.Repeat("0123456789", 5)
		wantField(t, wordsVal(long), n+1, long[:n+1])
		wantField(t, wordsVal(letters(1000)), n+1, letters(n+1))
		wantField(t, wordsVal(allBytes()[n:]), n+1, allBytes()[n:2*n+1])
		// Just the width, one byte shorter, one longer.
		wantField(t, wordsVal(letters(n+1)), n+1, letters(n+1))
		wantField(t, wordsVal(letters(n)), n+1, letters(n)+" ")
		wantField(t, wordsVal(letters(n+2)), n+1, letters(n+1))
	}
}

func TestFieldsOfNumbers(t *testing.T) {
	checkFields(t, numVal("1234"), field{4, "1234"}, field{5, " 1234"}, field{6, "  1234"}, field{3, "###"}, field{2, "##"}, field{1, "#"}, field{40, spaces(36) + "1234"})
	checkFields(t, numVal("-123"), field{4, "-123"}, field{5, " -123"}, field{3, "###"}, field{1, "#"}, field{40, spaces(36) + "-123"})
	checkFields(t, numVal("0"), field{1, "0"}, field{2, " 0"}, field{3, "  0"}, field{40, spaces(39) + "0"})
	checkFields(t, numVal("-1"), field{1, "#"}, field{2, "-1"}, field{3, " -1"})
	checkFields(t, numVal("0.5"), field{2, "##"}, field{3, "0.5"}, field{4, " 0.5"})
	checkFields(t, numVal("-0.5"), field{3, "###"}, field{4, "-0.5"}, field{5, " -0.5"})
	checkFields(t, numVal("1E20"), field{4, "####"}, field{5, "1E+20"}, field{6, " 1E+20"})
	checkFields(t, numVal("-2E-7"), field{4, "####"}, field{5, "-2E-7"}, field{6, " -2E-7"})
	checkFields(t, numVal("123456789012345"), field{14, strings.Repeat("#", 14)}, field{15, "123456789012345"}, field{16, " 123456789012345"})
	// The longest that there is.
	checkFields(t, numVal("-1.23456789012345E-100"), field{20, strings.Repeat("#", 20)}, field{21, strings.Repeat("#", 21)}, field{22, "-1.23456789012345E-100"}, field{23, " -1.23456789012345E-100"}, field{40, spaces(18) + "-1.23456789012345E-100"})
}

func TestFieldsOfBools(t *testing.T) {
	checkFields(t, yes, field{4, "TRUE"}, field{5, "TRUE "}, field{6, " TRUE "}, field{7, " TRUE  "}, field{8, "  TRUE  "}, field{9, "  TRUE   "}, field{39, spaces(17) + "TRUE" + spaces(18)}, field{40, spaces(18) + "TRUE" + spaces(18)}, field{3, "TRU"}, field{2, "TR"}, field{1, "T"})
	checkFields(t, no, field{5, "FALSE"}, field{6, "FALSE "}, field{7, " FALSE "}, field{8, " FALSE  "}, field{40, spaces(17) + "FALSE" + spaces(18)}, field{4, "FALS"}, field{1, "F"})
}

func TestFieldsOfErrors(t *testing.T) {
	checkFields(t, errVal("#N/A"), field{4, "#N/A"}, field{5, "#N/A "}, field{6, " #N/A "}, field{7, " #N/A  "}, field{3, "#N/"}, field{1, "#"}, field{40, spaces(18) + "#N/A" + spaces(18)})
	checkFields(t, errVal("#DIV/0!"), field{7, "#DIV/0!"}, field{8, "#DIV/0! "}, field{9, " #DIV/0! "}, field{10, " #DIV/0!  "}, field{6, "#DIV/0"}, field{3, "#DI"}, field{40, spaces(16) + "#DIV/0!" + spaces(17)})
	for _, text := range errorTexts {
		n := len(text)
		checkFields(t, errVal(text), field{n, text}, field{n + 1, text + " "}, field{n + 2, " " + text + " "}, field{n + 3, " " + text + "  "}, field{n - 1, text[:n-1]}, field{1, "#"})
	}
}

func TestFieldsOfNothing(t *testing.T) {
	for width := 1; width <= 40; width++ {
		wantField(t, empty, width, spaces(width))
		wantField(t, wordsVal(""), width, spaces(width))
	}
}

func TestFieldsThatAreNone(t *testing.T) {
	for _, width := range append([]int{0, 41, 42, 100}, farNumbers...) {
		for _, v := range goodValues() {
			wantField(t, v, width, "")
		}
		wantField(t, impl.Value{Kind: 5}, width, "")
	}
	for _, v := range noValues() {
		for _, width := range []int{1, 4, 20, 40} {
			wantField(t, v, width, "")
		}
	}
}
