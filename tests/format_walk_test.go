package tests

import (
	"fmt"
	"math/big"
	"math/rand"
	"regexp"
	"slices"
	"strconv"
	"strings"
	"testing"

	"loop.example/g00025/impl"
)

const dateSigns = `yyyy|yy|mm|m|dd|d|hh|nn|ss`

var (
	textForm    = regexp.MustCompile(`^[ !#-~]{1,20}$`)
	dateForm    = regexp.MustCompile(`^(?:` + dateSigns + `)(?:` + dateSigns + `|[-/:. ]){0,11}$`)
	sectionForm = regexp.MustCompile(`^(?:"([ !#-~]{1,20})")?(?:(#,)?(0{1,9})(?:\.(0{1,9})?(#{1,9})?)?(%{0,3})|([^"]+))(?:"([ !#-~]{1,20})")?$`)
	emptyPoint  = regexp.MustCompile(`\.(?:[%"]|$)`)
)

// walkedSections cuts a code at each `;` that is in no text.
func walkedSections(code string) []string {
	out, inside := []string{""}, false
	for i := range len(code) {
		if code[i] == '"' {
			inside = !inside
		}
		if code[i] == ';' && !inside {
			out = append(out, "")
			continue
		}
		out[len(out)-1] += code[i : i+1]
	}
	return out
}

// walkedSection reads a section by its form; a date's row is asked for on its own.
func walkedSection(text string) (format, bool) {
	m := sectionForm.FindStringSubmatch(text)
	if m == nil {
		return format{}, false
	}
	f := format{Before: m[1], Group: m[2] != "", Whole: len(m[3]), Places: len(m[4]), Maybe: len(m[5]), Times: len(m[6]), Date: m[7], After: m[8]}
	if f.Date != "" {
		return f, dateForm.MatchString(f.Date)
	}
	bare := strings.TrimSuffix(strings.TrimPrefix(text, `"`+f.Before+`"`), `"`+f.After+`"`)
	return f, !emptyPoint.MatchString(bare)
}

func walkedFormats(code string) []format {
	if len(code) > 100 {
		return nil
	}
	var out []format
	for _, text := range walkedSections(code) {
		f, is := walkedSection(text)
		if !is {
			return nil
		}
		out = append(out, f)
	}
	if len(out) > 3 {
		return nil
	}
	return out
}

// walkedCode tells formats that all are as they may be.
func walkedCode(list []format) string {
	var out []string
	for _, f := range list {
		number := f.Date == "" && f.Whole >= 1 && f.Whole <= 9 && f.Places >= 0 && f.Places <= 9 && f.Maybe >= 0 && f.Maybe <= 9 && f.Times >= 0 && f.Times <= 3
		date := f == format{Before: f.Before, After: f.After, Date: f.Date} && dateForm.MatchString(f.Date)
		if f.Neg || !number && !date {
			return ""
		}
		pattern := f.Date
		if number {
			pattern = map[bool]string{true: "#,"}[f.Group] + strings.Repeat("0", f.Whole) + "." + strings.Repeat("0", f.Places) + strings.Repeat("#", f.Maybe)
			pattern = strings.TrimSuffix(pattern, ".") + strings.Repeat("%", f.Times)
		}
		for i, text := range []string{f.Before, f.After} {
			switch {
			case text == "":
			case !textForm.MatchString(text):
				return ""
			case i == 0:
				pattern = `"` + text + `"` + pattern
			default:
				pattern += `"` + text + `"`
			}
		}
		out = append(out, pattern)
	}
	code := strings.Join(out, ";")
	if len(list) > 3 || len(code) > 100 {
		return ""
	}
	return code
}

// walkedGroups asks of each digit how many there are from it on.
func walkedGroups(digits string) string {
	var out strings.Builder
	for i, digit := range digits {
		if i > 0 && (len(digits)-i)%3 == 0 {
			out.WriteByte(',')
		}
		out.WriteRune(digit)
	}
	return out.String()
}

// walkedDigits shows a number of a format by exact fractions; false where it is too great.
func walkedDigits(f format, size *big.Rat) (string, bool) {
	for range f.Times {
		r := wantPut(new(big.Rat).Mul(size, big.NewRat(100, 1)))
		if !r.Ok {
			return "", false
		}
		size = ratOf(r.Dec)
	}
	text := new(big.Rat).SetFrac(wholeBy(new(big.Rat).Mul(size, ratTen(f.Places+f.Maybe)), impl.RoundAway), bigTen(f.Places+f.Maybe)).FloatString(f.Places + f.Maybe)
	whole, places, _ := strings.Cut(text, ".")
	for len(whole) < f.Whole {
		whole = "0" + whole
	}
	if f.Group {
		whole = walkedGroups(whole)
	}
	for len(places) > f.Places && places[len(places)-1] == '0' {
		places = places[:len(places)-1]
	}
	return strings.TrimSuffix(whole+"."+places, "."), true
}

// walkedDate shows a date by the library's days, with each sign of the row replaced by what it stands for.
func walkedDate(row string, number *big.Rat) string {
	whole := new(big.Int).Div(number.Num(), number.Denom())
	if whole.CmpAbs(big.NewInt(1000000)) > 0 {
		return "#"
	}
	on := dayZero.AddDate(0, 0, int(whole.Int64()))
	rest := ratOf(wantPut(new(big.Rat).Sub(number, new(big.Rat).SetInt(whole))).Dec)
	seconds := ratOf(wantPut(new(big.Rat).Mul(rest, big.NewRat(86400, 1))).Dec)
	second := new(big.Int).Quo(seconds.Num(), seconds.Denom()).Int64()
	year := fmt.Sprintf("%04d", max(on.Year(), -on.Year()))
	short := year[len(year)-2:]
	if on.Year() < 0 {
		year = "-" + year
	}
	two := func(n int64) string { return fmt.Sprintf("%02d", n) }
	return strings.NewReplacer(
		"yyyy", year, "yy", short,
		"mm", two(int64(on.Month())), "m", strconv.Itoa(int(on.Month())),
		"dd", two(int64(on.Day())), "d", strconv.Itoa(on.Day()),
		"hh", two(second/3600), "nn", two(second%3600/60), "ss", two(second%60),
	).Replace(row)
}

// walkedShown shows a good value by a code, told a second time.
func walkedShown(v impl.Value, code string) string {
	list := walkedFormats(code)
	if v.Kind != impl.ValNum || len(list) == 0 {
		return walkedText(v)
	}
	number, sign := ratOf(v.Num), ""
	section := []int{2, 0, 1}[(number.Sign()+3)%3]
	switch {
	case section == 1 && len(list) > 1:
		number.Neg(number)
	case section >= len(list):
		section = 0
	}
	f := list[section]
	if f.Date != "" {
		return f.Before + walkedDate(f.Date, number) + f.After
	}
	text, fits := walkedDigits(f, new(big.Rat).Abs(number))
	if !fits {
		return f.Before + "#" + f.After
	}
	if number.Sign() < 0 && strings.ContainsAny(text, "123456789") {
		sign = "-"
	}
	return f.Before + sign + text + strings.Repeat("%", f.Times) + f.After
}

func checkWalkedFormats(t *testing.T, code string) {
	t.Helper()
	want := walkedFormats(code)
	got := impl.ReadFormat(code)
	if !slices.Equal(got, want) {
		t.Errorf("ReadFormat(%q) = %v, want %v", code, got, want)
		return
	}
	if told := impl.FormatCode(got); len(got) > 0 && told != code {
		t.Errorf("FormatCode(%v) = %q, want %q", got, told, code)
	}
}

func checkWalkedShown(t *testing.T, v impl.Value, code string) {
	t.Helper()
	if got, want := impl.ShowBy(v, code), walkedShown(v, code); got != want {
		t.Errorf("ShowBy(%v, %q) = %q, want %q", v, code, got, want)
	}
}

func TestShortCodes(t *testing.T) {
	check := func(code string) { checkWalkedFormats(t, code) }
	eachText(`0#,.%;"a`, 6, check)
	eachText(`ymdhns-. 0;"`, 5, check)
}

func TestRepeatedSigns(t *testing.T) {
	for _, head := range []string{"", "#,", "0", "0.", "0.0", "0.#", "0.0#", `"a"`, "0;", "d", "yy", "0;0;"} {
		for _, sign := range []string{"0", "#", "%", ".", "y", "m", "d", "hh", "d-", "/", "yyyy", "m ", ";", `"`, "0;", `"a"`} {
			for n := range 30 {
				for _, tail := range []string{"", "%", `"b"`, "#", ";0", "0"} {
					checkWalkedFormats(t, head+strings.Repeat(sign, n)+tail)
				}
			}
		}
	}
}

func TestHurtCodes(t *testing.T) {
	for code := range goodCodes() {
		hurt(code, func(code string) { checkWalkedFormats(t, code) })
	}
}

// formatText is at times one that may not be.
func (c composer) formatText() string {
	n := c.Intn(6)
	switch c.Intn(16) {
	case 0:
		n = 18 + c.Intn(5)
	case 1:
		return c.pick(`"`, "\x1f", "\x7f", `a"0`, "\xff", `";"`)
	case 2, 3, 4, 5, 6:
		return ""
	}
	out := make([]byte, n)
	for i := range out {
		out[i] = byte(32 + c.Intn(95))
	}
	return strings.ReplaceAll(string(out), `"`, "'")
}

func (c composer) dateRow() string {
	out := c.pick("yyyy", "yy", "mm", "m", "dd", "d", "hh", "nn", "ss")
	for range c.Intn(12) {
		out += c.pick("yyyy", "yy", "mm", "m", "dd", "d", "hh", "nn", "ss", "-", "/", ":", ".", " ")
	}
	if c.Intn(20) == 0 {
		out = c.pick(" ", "-", "y", "yyy", "0", "#,0", `"a"`, ";", "D", "") + out + c.pick("", "y", "h", "0", ";0", "-----")
	}
	return out
}

// format is mostly one that a code has.
func (c composer) format() format {
	f := format{Before: c.formatText(), After: c.formatText()}
	if c.Intn(3) == 0 {
		f.Date = c.dateRow()
	}
	if f.Date == "" || c.Intn(20) == 0 {
		f.Whole, f.Group = 1+c.Intn(4), c.Intn(2) == 0
		f.Places, f.Maybe, f.Times = max(0, c.Intn(6)-2), max(0, c.Intn(6)-2), max(0, c.Intn(7)-3)
	}
	switch number := c.Intn(13) - 1; c.Intn(40) {
	case 0:
		f.Whole = number
	case 1:
		f.Places = number
	case 2:
		f.Maybe = number
	case 3:
		f.Times = number
	case 4:
		f.Neg = true
	}
	return f
}

func (c composer) formats() []format {
	var out []format
	many := 1 + c.Intn(3)
	if c.Intn(20) == 0 {
		many = c.Intn(6)
	}
	for range many {
		out = append(out, c.format())
	}
	return out
}

func TestRandomFormats(t *testing.T) {
	told := 0
	for seed := range 8 {
		c := composer{rand.New(rand.NewSource(int64(seed)))}
		for range 5000 {
			list := c.formats()
			was := slices.Clone(list)
			got, want := impl.FormatCode(list), walkedCode(list)
			if got != want {
				t.Fatalf("FormatCode(%v) = %q, want %q", list, got, want)
			}
			if !slices.Equal(list, was) {
				t.Fatalf("FormatCode wrote into its list: %v, was %v", list, was)
			}
			if got == "" {
				continue
			}
			told++
			if read := impl.ReadFormat(got); !slices.Equal(read, list) {
				t.Fatalf("ReadFormat(%q) = %v, want %v", got, read, list)
			}
		}
	}
	if told < 10000 {
		t.Errorf("%d of the random formats have a code", told)
	}
}

// code is one that some formats are told as.
func (c composer) code() string {
	for {
		if code := walkedCode(c.formats()); code != "" {
			return code
		}
	}
}

// shownNumber is often near what a pattern rounds, and near a day's end.
func (c composer) shownNumber() impl.Dec {
	switch c.Intn(8) {
	case 0:
		return randomDec(c.Rand, 300)
	case 1:
		return randomDec(c.Rand, 20)
	case 2:
		return impl.DecOf(c.Intn(21)-10, -c.Intn(12)).Dec
	case 3:
		return impl.DecOf(c.Intn(2000001)-1000000, 0).Dec
	case 4:
		return impl.DecOf(c.Intn(2000000000001)-1000000000000, -6).Dec
	case 5:
		return impl.DecOf(1-2*c.Intn(2), -c.Intn(30)).Dec
	case 6:
		// seconds of a day, as nearly as they go into a decimal
		return wantPut(big.NewRat(int64(c.Intn(864000)-432000), 86400)).Dec
	}
	places := c.Intn(8)
	half := new(big.Rat).Add(new(big.Rat).SetInt64(int64(c.Intn(2001)-1000)), big.NewRat(1, 2))
	return wantPut(new(big.Rat).Mul(half, ratTen(-places))).Dec
}

func TestRandomNumbersShown(t *testing.T) {
	eachRandom(t, 4000, func(t *testing.T, random *rand.Rand) {
		c := composer{random}
		code := c.code()
		for range 5 {
			checkWalkedShown(t, numOf(c.shownNumber()), code)
		}
		checkWalkedShown(t, empty, code)
		checkWalkedShown(t, randomGood(random), code)
	})
}

func TestEdgeNumbersShown(t *testing.T) {
	for _, code := range []string{"0", "0.0##", "#,000.0%", "0%%%", `0.00;"b"0.#;"c"0`, "yyyy-mm-dd hh:nn:ss", `0;d.m.yy" at "hh`} {
		for _, d := range edgeDecs() {
			checkWalkedShown(t, numOf(d), code)
		}
	}
}

func TestDaysShown(t *testing.T) {
	const code = "yyyy-mm-dd"
	for _, near := range []int{-impl.MaxDay, -730485, -36525, 0, 36525, impl.MaxDay} {
		for day := near - 400; day <= near+400; day++ {
			v := numOf(impl.DecOf(day, 0).Dec)
			want := impl.DateText(impl.DateOf(impl.CalNew, day))
			if want == "" {
				want = "#"
			}
			if got := impl.ShowBy(v, code); got != want {
				t.Errorf("ShowBy(%d, %s) = %s, want %s", day, code, got, want)
			}
			checkWalkedShown(t, v, "d.m.yy hh")
		}
	}
}

// TestSecondsShown goes through a day by seconds that are told from their middles.
func TestSecondsShown(t *testing.T) {
	for second := range 86400 {
		middle := impl.DecDiv(impl.DecOf(2*second+1, 0).Dec, impl.DecOf(2*86400, 0).Dec)
		want := fmt.Sprintf("%02d:%02d:%02d", second/3600, second/60%60, second%60)
		for _, day := range []int{0, 7, -7} {
			at := impl.DecAdd(middle.Dec, impl.DecOf(day, 0).Dec)
			if got := impl.ShowBy(numOf(at.Dec), "hh:nn:ss"); got != want {
				t.Fatalf("second %d of day %d: %s, want %s", second, day, got, want)
			}
		}
	}
}

// TestAnyFormats: any arguments at all.
func TestAnyFormats(t *testing.T) {
	eachRandom(t, 2000, func(t *testing.T, random *rand.Rand) {
		c := composer{random}
		code := make([]byte, random.Intn(110))
		random.Read(code)
		text := string(code)
		if random.Intn(2) == 0 {
			text = c.code()
		}
		checkWalkedFormats(t, text)
		v := anyValue(random)
		got := impl.ShowBy(v, text)
		if !goodBySight(v) && got != "" {
			t.Errorf("ShowBy(%v, %q) = %q, of no good value", v, text, got)
		}
		if goodBySight(v) && got != walkedShown(v, text) {
			t.Errorf("ShowBy(%v, %q) = %q", v, text, got)
		}
		list := c.formats()
		for i := range list {
			number := farNumbers[random.Intn(len(farNumbers))]
			switch random.Intn(6) {
			case 0:
				list[i].Whole = number
			case 1:
				list[i].Places = number
			case 2:
				list[i].Maybe = number
			case 3:
				list[i].Times = number
			case 4:
				list[i].Before = text
			case 5:
				list[i].Date = text
			}
		}
		if got, want := impl.FormatCode(list), walkedCode(list); got != want {
			t.Errorf("FormatCode(%v) = %q, want %q", list, got, want)
		}
	})
}
