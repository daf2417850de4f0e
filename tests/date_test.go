package tests

import (
	"math"
	"strings"
	"testing"

	"loop.example/g00025/impl"
)

var bothCals = []int{impl.CalNew, impl.CalOld}

var noCals = []int{0, 3, -1, math.MaxInt, math.MinInt}

var noDays = []int{-impl.MaxDay - 1, impl.MaxDay + 1, math.MaxInt, math.MinInt}

var noYears = []int{-5001, 10000, math.MaxInt, math.MinInt}

var noMonths = []int{0, 13, -1, math.MaxInt, math.MinInt}

func ymd(year, month, day int) impl.Date {
	return impl.Date{Year: year, Month: month, Day: day}
}

// noDates: dates that neither calendar has.
func noDates() []impl.Date {
	out := []impl.Date{
		{},
		ymd(2023, 2, 29),
		ymd(2024, 2, 30),
		ymd(2024, 4, 31),
		ymd(2024, 6, 31),
		ymd(2024, 9, 31),
		ymd(2024, 11, 31),
		ymd(2024, 1, 32),
		ymd(2024, 12, 32),
		ymd(2024, 1, 0),
		ymd(2024, 1, -1),
		ymd(2024, 1, math.MaxInt),
		ymd(2024, 1, math.MinInt),
		ymd(-1, 2, 29),
		ymd(math.MinInt, math.MinInt, math.MinInt),
		ymd(math.MaxInt, math.MaxInt, math.MaxInt),
	}
	for _, m := range noMonths {
		out = append(out, ymd(2024, m, 1))
	}
	for _, y := range noYears {
		out = append(out, ymd(y, 1, 1), ymd(y, 12, 31))
	}
	return out
}

func TestLeapYear(t *testing.T) {
	cases := []struct {
		year   int
		inNew  bool
		inOld  bool
		reason string
	}{
		{2024, true, true, "by 4"},
		{2023, false, false, "not by 4"},
		{2022, false, false, "by 2"},
		{1900, false, true, "by 100"},
		{2100, false, true, "by 100"},
		{2200, false, true, "by 200"},
		{2000, true, true, "by 400"},
		{1600, true, true, "by 400"},
		{0, true, true, "the year 0"},
		{1, false, false, "the year 1"},
		{4, true, true, "by 4"},
		{100, false, true, "by 100"},
		{-1, false, false, "the year -1"},
		{-2, false, false, "by 2, below 0"},
		{-3, false, false, "below 0"},
		{-4, true, true, "by 4, below 0"},
		{-100, false, true, "by 100, below 0"},
		{-200, false, true, "by 200, below 0"},
		{-400, true, true, "by 400, below 0"},
		{-5000, false, true, "the first year"},
		{-4996, true, true, "by 4, below 0"},
		{-4800, true, true, "by 400, below 0"},
		{9996, true, true, "by 4"},
		{9600, true, true, "by 400"},
		{9999, false, false, "the last year"},
		{-5004, false, false, "ahead of the first year"},
		{-5200, false, false, "ahead of the first year"},
		{-6000, false, false, "ahead of the first year"},
		{10000, false, false, "behind the last year"},
		{10004, false, false, "behind the last year"},
		{math.MaxInt, false, false, "far off"},
		{math.MinInt, false, false, "far off"},
	}
	for _, c := range cases {
		if got := impl.LeapYear(impl.CalNew, c.year); got != c.inNew {
			t.Errorf("new, %d: %t (%s)", c.year, got, c.reason)
		}
		if got := impl.LeapYear(impl.CalOld, c.year); got != c.inOld {
			t.Errorf("old, %d: %t (%s)", c.year, got, c.reason)
		}
		for _, cal := range noCals {
			if impl.LeapYear(cal, c.year) {
				t.Errorf("calendar %d, %d", cal, c.year)
			}
		}
	}
}

func TestMonthDays(t *testing.T) {
	lengths := []int{31, 28, 31, 30, 31, 30, 31, 31, 30, 31, 30, 31}
	for _, cal := range bothCals {
		for _, year := range []int{-5000, -400, -100, -4, -1, 0, 1, 100, 400, 1900, 2000, 2023, 2024, 9996, 9999} {
			for i, want := range lengths {
				if i == 1 && impl.LeapYear(cal, year) {
					want++
				}
				if got := impl.MonthDays(cal, year, i+1); got != want {
					t.Errorf("%d, %d-%d: %d, not %d", cal, year, i+1, got, want)
				}
			}
			for _, month := range noMonths {
				if got := impl.MonthDays(cal, year, month); got != 0 {
					t.Errorf("%d, %d-%d: %d", cal, year, month, got)
				}
			}
		}
		for _, year := range noYears {
			for month := 1; month <= 12; month++ {
				if got := impl.MonthDays(cal, year, month); got != 0 {
					t.Errorf("%d, %d-%d: %d", cal, year, month, got)
				}
			}
		}
	}
	for _, cal := range noCals {
		if got := impl.MonthDays(cal, 2024, 1); got != 0 {
			t.Errorf("calendar %d: %d", cal, got)
		}
	}
}

// The days of these dates were told by the formulas of Julian day numbers.
var knownDays = []struct {
	cal  int
	date impl.Date
	day  int
}{
	{impl.CalNew, ymd(2000, 1, 1), 0},
	{impl.CalOld, ymd(1999, 12, 19), 0},
	{impl.CalNew, ymd(1999, 12, 31), -1},
	{impl.CalOld, ymd(1999, 12, 18), -1},
	{impl.CalNew, ymd(2000, 1, 2), 1},
	{impl.CalOld, ymd(2000, 1, 1), 13},
	{impl.CalNew, ymd(-738, 2, 3), -impl.MaxDay},
	{impl.CalOld, ymd(-738, 2, 11), -impl.MaxDay},
	{impl.CalNew, ymd(4737, 11, 28), impl.MaxDay},
	{impl.CalOld, ymd(4737, 10, 25), impl.MaxDay},
	{impl.CalNew, ymd(-1, 1, 1), -730850},
	{impl.CalOld, ymd(-1, 1, 1), -730852},
	{impl.CalNew, ymd(-1, 12, 31), -730486},
	{impl.CalOld, ymd(-1, 12, 31), -730488},
	{impl.CalNew, ymd(0, 1, 1), -730485},
	{impl.CalOld, ymd(0, 1, 1), -730487},
	{impl.CalNew, ymd(0, 2, 29), -730426},
	{impl.CalOld, ymd(0, 2, 29), -730428},
	{impl.CalNew, ymd(0, 12, 31), -730120},
	{impl.CalOld, ymd(0, 12, 31), -730122},
	{impl.CalNew, ymd(1, 1, 1), -730119},
	{impl.CalOld, ymd(1, 1, 1), -730121},
	{impl.CalNew, ymd(-4, 2, 29), -731887},
	{impl.CalOld, ymd(-4, 2, 29), -731889},
	{impl.CalNew, ymd(-100, 2, 28), -766951},
	{impl.CalNew, ymd(-100, 3, 1), -766950},
	{impl.CalOld, ymd(-100, 2, 28), -766954},
	{impl.CalOld, ymd(-100, 2, 29), -766953},
	{impl.CalOld, ymd(-100, 3, 1), -766952},
	{impl.CalNew, ymd(-400, 2, 29), -876523},
	{impl.CalOld, ymd(-400, 2, 29), -876528},
	{impl.CalOld, ymd(1900, 2, 29), -36453},
	{impl.CalNew, ymd(1900, 3, 1), -36465},
	{impl.CalOld, ymd(1900, 3, 1), -36452},
	{impl.CalOld, ymd(1582, 10, 4), -152385},
	{impl.CalNew, ymd(1582, 10, 15), -152384},
	{impl.CalNew, ymd(2000, 2, 29), 59},
	{impl.CalOld, ymd(2000, 2, 29), 72},
	{impl.CalNew, ymd(2024, 2, 29), 8825},
	{impl.CalOld, ymd(2024, 2, 29), 8838},
}

func TestKnownDays(t *testing.T) {
	for _, c := range knownDays {
		if day, ok := impl.DayOf(c.cal, c.date); !ok || day != c.day {
			t.Errorf("DayOf %d %v: %d %t, not %d", c.cal, c.date, day, ok, c.day)
		}
		if date := impl.DateOf(c.cal, c.day); date != c.date {
			t.Errorf("DateOf %d %d: %v, not %v", c.cal, c.day, date, c.date)
		}
	}
}

func wantNoDay(t *testing.T, cal int, d impl.Date) {
	t.Helper()
	if day, ok := impl.DayOf(cal, d); ok || day != 0 {
		t.Errorf("DayOf %d %v: %d %t", cal, d, day, ok)
	}
}

func TestDayOfNone(t *testing.T) {
	for _, cal := range bothCals {
		for _, d := range noDates() {
			wantNoDay(t, cal, d)
		}
		// dates, but of no days
		for _, d := range []impl.Date{ymd(-5000, 1, 1), ymd(-5000, 12, 31), ymd(-739, 12, 31), ymd(4738, 1, 1), ymd(9999, 1, 1), ymd(9999, 12, 31)} {
			wantNoDay(t, cal, d)
		}
	}
	wantNoDay(t, impl.CalNew, ymd(-738, 2, 2))
	wantNoDay(t, impl.CalOld, ymd(-738, 2, 10))
	wantNoDay(t, impl.CalNew, ymd(4737, 11, 29))
	wantNoDay(t, impl.CalOld, ymd(4737, 10, 26))
	for _, year := range []int{1900, 2100, 100, -100, -500} {
		wantNoDay(t, impl.CalNew, ymd(year, 2, 29))
		if _, ok := impl.DayOf(impl.CalOld, ymd(year, 2, 29)); !ok {
			t.Errorf("the 29th of February %d of the old calendar is a day", year)
		}
		wantNoDay(t, impl.CalOld, ymd(year, 2, 30))
	}
	for _, cal := range noCals {
		wantNoDay(t, cal, ymd(2000, 1, 1))
		wantNoDay(t, cal, impl.Date{})
	}
}

func TestNoDays(t *testing.T) {
	for _, day := range noDays {
		for _, cal := range bothCals {
			if d := impl.DateOf(cal, day); d != (impl.Date{}) {
				t.Errorf("DateOf %d %d: %v", cal, day, d)
			}
		}
		if w := impl.Weekday(day); w != -1 {
			t.Errorf("Weekday %d: %d", day, w)
		}
		if y, w := impl.WeekOf(day); y != 0 || w != 0 {
			t.Errorf("WeekOf %d: %d %d", day, y, w)
		}
	}
	for _, cal := range noCals {
		for _, day := range []int{0, 1, -impl.MaxDay, impl.MaxDay, math.MaxInt, math.MinInt} {
			if d := impl.DateOf(cal, day); d != (impl.Date{}) {
				t.Errorf("DateOf %d %d: %v", cal, day, d)
			}
		}
	}
}

func TestWeekday(t *testing.T) {
	for day, want := range map[int]int{
		-9: 3, -8: 4, -7: 5, -6: 6, -5: 0, -4: 1, -3: 2, -2: 3, -1: 4,
		0: 5, 1: 6, 2: 0, 3: 1, 4: 2, 5: 3, 6: 4, 7: 5, 8: 6, 9: 0,
		// 1000000 is 142857 weeks and a day
		impl.MaxDay: 6, impl.MaxDay - 1: 5, -impl.MaxDay: 4, -impl.MaxDay + 1: 5,
	} {
		if got := impl.Weekday(day); got != want {
			t.Errorf("%d: %d, not %d", day, got, want)
		}
	}
}

func TestWeekOfYearsEnds(t *testing.T) {
	cases := []struct {
		date string
		year int
		week int
	}{
		// a year's last days in its own week 52 or 53, or in week 1 of the next one
		{"2004-12-26", 2004, 52}, {"2004-12-27", 2004, 53}, {"2004-12-31", 2004, 53},
		{"2005-12-31", 2005, 52}, {"2006-12-31", 2006, 52},
		{"2007-12-30", 2007, 52}, {"2007-12-31", 2008, 1},
		{"2008-12-28", 2008, 52}, {"2008-12-29", 2009, 1}, {"2008-12-31", 2009, 1},
		{"2009-12-27", 2009, 52}, {"2009-12-28", 2009, 53}, {"2009-12-31", 2009, 53},
		{"2015-12-31", 2015, 53}, {"2020-12-31", 2020, 53}, {"2022-12-31", 2022, 52},
		// a year's first days in the last week of the one before, or in its own week 1
		{"2005-01-01", 2004, 53}, {"2005-01-02", 2004, 53}, {"2005-01-03", 2005, 1},
		{"2006-01-01", 2005, 52}, {"2006-01-02", 2006, 1},
		{"2007-01-01", 2007, 1}, {"2008-01-01", 2008, 1}, {"2009-01-01", 2009, 1},
		{"2010-01-01", 2009, 53}, {"2010-01-03", 2009, 53}, {"2010-01-04", 2010, 1},
		{"2016-01-01", 2015, 53}, {"2021-01-03", 2020, 53}, {"2023-01-01", 2022, 52},
		{"2000-01-01", 1999, 52}, {"2000-01-02", 1999, 52}, {"2000-01-03", 2000, 1},
		// the years 0 and 1 begin on a Saturday and on a Monday, as 2000 and 2001 do
		{"0000-01-01", -1, 52}, {"0000-01-02", -1, 52}, {"0000-01-03", 0, 1},
		{"0000-12-31", 0, 52}, {"0001-01-01", 1, 1}, {"-0001-12-31", -1, 52},
		// 400 years are whole weeks: -4 is as 1996, -396 as 2004
		{"-0004-01-01", -4, 1}, {"-0005-12-31", -5, 52}, {"-0004-12-30", -3, 1},
		{"-0396-12-31", -396, 53}, {"-0395-01-01", -396, 53}, {"-0395-01-03", -395, 1},
	}
	for _, c := range cases {
		day, ok := impl.ReadDate(impl.CalNew, c.date)
		if !ok {
			t.Errorf("%s is not read", c.date)
		}
		if y, w := impl.WeekOf(day); y != c.year || w != c.week {
			t.Errorf("%s: %d %d, not %d %d", c.date, y, w, c.year, c.week)
		}
	}
}

// The weeks of the first and the last day hold days that are none.
func TestWeekOfLastDays(t *testing.T) {
	for day, want := range map[int][2]int{-impl.MaxDay: {-738, 5}, impl.MaxDay: {4737, 47}, impl.MaxDay - 6: {4737, 47}, impl.MaxDay - 7: {4737, 46}} {
		if y, w := impl.WeekOf(day); y != want[0] || w != want[1] {
			t.Errorf("%d: %d %d, not %v", day, y, w, want)
		}
	}
}

func TestAddMonths(t *testing.T) {
	type months struct {
		cal  int
		from impl.Date
		add  int
		want impl.Date
	}
	const n, o = impl.CalNew, impl.CalOld
	none := impl.Date{}
	cases := []months{
		{n, ymd(2024, 5, 17), 0, ymd(2024, 5, 17)},
		{n, ymd(2024, 5, 17), 1, ymd(2024, 6, 17)},
		{n, ymd(2024, 12, 31), 1, ymd(2025, 1, 31)},
		{n, ymd(2024, 1, 1), -1, ymd(2023, 12, 1)},
		{n, ymd(2024, 5, 17), 7, ymd(2024, 12, 17)},
		{n, ymd(2024, 5, 17), 8, ymd(2025, 1, 17)},
		{n, ymd(2024, 5, 17), -4, ymd(2024, 1, 17)},
		{n, ymd(2024, 5, 17), -5, ymd(2023, 12, 17)},
		{n, ymd(2024, 5, 17), -17, ymd(2022, 12, 17)},
		// cut to the last day of the month
		{n, ymd(2024, 1, 31), 1, ymd(2024, 2, 29)},
		{n, ymd(2023, 1, 31), 1, ymd(2023, 2, 28)},
		{n, ymd(2023, 1, 29), 1, ymd(2023, 2, 28)},
		{n, ymd(2023, 1, 28), 1, ymd(2023, 2, 28)},
		{n, ymd(2024, 1, 31), 3, ymd(2024, 4, 30)},
		{n, ymd(2024, 1, 31), 2, ymd(2024, 3, 31)},
		{n, ymd(2024, 1, 31), -2, ymd(2023, 11, 30)},
		{n, ymd(2024, 2, 29), 12, ymd(2025, 2, 28)},
		{n, ymd(2024, 2, 29), 48, ymd(2028, 2, 29)},
		{n, ymd(1896, 2, 29), 48, ymd(1900, 2, 28)},
		{o, ymd(1896, 2, 29), 48, ymd(1900, 2, 29)},
		{n, ymd(1900, 1, 31), 1, ymd(1900, 2, 28)},
		{o, ymd(1900, 1, 31), 1, ymd(1900, 2, 29)},
		{o, ymd(1900, 2, 29), 0, ymd(1900, 2, 29)},
		{o, ymd(1900, 2, 29), 12, ymd(1901, 2, 28)},
		{n, ymd(1900, 2, 29), 0, none},
		{n, ymd(1900, 2, 29), 12, none},
		// through the year 0
		{n, ymd(0, 1, 31), -1, ymd(-1, 12, 31)},
		{n, ymd(0, 1, 31), -2, ymd(-1, 11, 30)},
		{n, ymd(1, 1, 31), -11, ymd(0, 2, 29)},
		{n, ymd(1, 1, 31), -23, ymd(-1, 2, 28)},
		{n, ymd(-1, 12, 15), 1, ymd(0, 1, 15)},
		{n, ymd(-4, 2, 29), -12, ymd(-5, 2, 28)},
		{n, ymd(-4, 2, 29), -48*25 + 48, ymd(-100, 2, 28)},
		{o, ymd(-4, 2, 29), -48*25 + 48, ymd(-100, 2, 29)},
		// the most and the fewest months
		{n, ymd(-5000, 1, 31), 100000, ymd(3333, 5, 31)},
		{n, ymd(-5000, 2, 28), 100000, ymd(3333, 6, 28)},
		{n, ymd(-5000, 1, 31), 100001, none},
		{n, ymd(9999, 12, 31), -100000, ymd(1666, 8, 31)},
		{o, ymd(9999, 10, 31), -100000, ymd(1666, 6, 30)},
		{n, ymd(9999, 12, 31), -100001, none},
		{n, ymd(2000, 1, 1), 100000, none},
		{n, ymd(2000, 1, 1), -100000, none},
		{n, ymd(2000, 1, 1), math.MaxInt, none},
		{n, ymd(2000, 1, 1), math.MinInt, none},
		// the first and the last year: no day need be there
		{n, ymd(9999, 11, 30), 1, ymd(9999, 12, 30)},
		{n, ymd(9999, 12, 31), 0, ymd(9999, 12, 31)},
		{n, ymd(9999, 12, 31), 1, none},
		{n, ymd(9998, 12, 1), 12, ymd(9999, 12, 1)},
		{n, ymd(9998, 12, 1), 13, none},
		{o, ymd(-5000, 2, 29), 0, ymd(-5000, 2, 29)},
		{n, ymd(-5000, 2, 29), 0, none},
		{n, ymd(-5000, 1, 1), 0, ymd(-5000, 1, 1)},
		{n, ymd(-5000, 1, 1), -1, none},
		{n, ymd(-5000, 2, 1), -1, ymd(-5000, 1, 1)},
		{n, ymd(-4999, 12, 31), -23, ymd(-5000, 1, 31)},
		{n, ymd(-4999, 12, 31), -24, none},
	}
	for _, d := range noDates() {
		cases = append(cases, months{n, d, 0, none}, months{o, d, 1, none}, months{n, d, -24, none})
	}
	for _, cal := range noCals {
		cases = append(cases, months{cal, ymd(2000, 1, 1), 0, none}, months{cal, ymd(2000, 1, 1), 1, none})
	}
	for _, c := range cases {
		if got := impl.AddMonths(c.cal, c.from, c.add); got != c.want {
			t.Errorf("%d %v and %d: %v, not %v", c.cal, c.from, c.add, got, c.want)
		}
	}
}

func TestWorkdays(t *testing.T) {
	cases := []struct {
		from int
		to   int
		free []int
		want int
	}{
		// day 0 is a Saturday, day 2 a Monday
		{0, 0, nil, 0}, {1, 1, nil, 0}, {2, 2, nil, 1}, {6, 6, nil, 1}, {7, 7, nil, 0},
		{0, 1, nil, 0}, {0, 2, nil, 1}, {2, 8, nil, 5}, {0, 9, nil, 6}, {1, 8, nil, 5},
		{-1, -1, nil, 1}, {-7, -6, nil, 0}, {-5, -1, nil, 5}, {-5, 6, nil, 10}, {-14, 6, nil, 15},
		// told backwards
		{9, 0, nil, -6}, {2, 1, nil, -1}, {3, 2, nil, -2}, {1, 0, nil, 0}, {-1, -5, nil, -5},
		{9, 0, []int{3, 3, 0}, -5},
		{9, 0, []int{2, 3, 4, 5, 6, 9}, 0},
		// free days: the ends, twice, in other orders, on weekends, outside
		{2, 6, []int{2}, 4}, {2, 6, []int{6}, 4}, {2, 6, []int{2, 6}, 3}, {2, 6, []int{6, 2}, 3},
		{2, 6, []int{1, 7}, 5}, {2, 6, []int{4, 4, 4}, 4}, {2, 6, []int{4, 3, 4, 3}, 3},
		{0, 9, []int{3, 3, 0}, 5}, {0, 9, []int{0, 1, 7, 8}, 6}, {0, 9, []int{9, 5, 9, 0, 5}, 4},
		{2, 6, []int{6, 5, 4, 3, 2}, 0}, {2, 2, []int{2}, 0}, {2, 6, []int{}, 5},
		{2, 6, []int{-100, 100, 3}, 4}, {-5, -1, []int{-3, -3, -6}, 4},
		// the first and the last day: 2000001 days from a Friday to a Sunday
		{-impl.MaxDay, impl.MaxDay, nil, 1428571}, {impl.MaxDay, -impl.MaxDay, nil, -1428571},
		{-impl.MaxDay, -impl.MaxDay, nil, 1}, {impl.MaxDay, impl.MaxDay, nil, 0},
		{-impl.MaxDay, -impl.MaxDay, []int{-impl.MaxDay}, 0},
		{-impl.MaxDay - 1, impl.MaxDay, nil, 0}, {-impl.MaxDay, impl.MaxDay + 1, nil, 0},
		{impl.MaxDay + 1, 0, nil, 0}, {0, -impl.MaxDay - 1, nil, 0},
		{math.MinInt, 0, nil, 0}, {0, math.MaxInt, nil, 0}, {math.MaxInt, math.MinInt, nil, 0},
		// what is no day is none of those that are counted
		{2, 6, []int{math.MaxInt, math.MinInt, impl.MaxDay + 1, 3}, 4},
	}
	for _, c := range cases {
		if got := impl.Workdays(c.from, c.to, c.free); got != c.want {
			t.Errorf("%d to %d without %v: %d, not %d", c.from, c.to, c.free, got, c.want)
		}
	}
}

func TestWorkdaysMostFree(t *testing.T) {
	free := make([]int, 1001)
	for i := range free {
		free[i] = 1000 - i
	}
	// from day 0 to 1999 there are 1428 workdays, from 1 to 1000 there are 715
	if got := impl.Workdays(0, 1999, nil); got != 1428 {
		t.Errorf("%d", got)
	}
	if got := impl.Workdays(0, 1999, free[:1000]); got != 1428-715 {
		t.Errorf("1000 free days: %d", got)
	}
	if got := impl.Workdays(0, 1999, free); got != 0 {
		t.Errorf("1001 free days: %d", got)
	}
	if got := impl.Workdays(1999, 0, free); got != 0 {
		t.Errorf("1001 free days, backwards: %d", got)
	}
	same := make([]int, 1001)
	if got := impl.Workdays(2, 6, same); got != 0 {
		t.Errorf("one free day 1001 times: %d", got)
	}
	if got := impl.Workdays(2, 6, same[:1000]); got != 5 {
		t.Errorf("one free day 1000 times: %d", got)
	}
}

func TestWorkdaysWritesNothing(t *testing.T) {
	whole := []int{9, 3, 3, 0, 77, -4, 5, 1, 2, -8}
	before := append([]int(nil), whole...)
	impl.Workdays(0, 9, whole[:6])
	impl.Workdays(9, 0, whole[2:8])
	impl.Workdays(9, 0, whole)
	for i := range whole {
		if whole[i] != before[i] {
			t.Fatalf("%v became %v", before, whole)
		}
	}
}

func TestDateText(t *testing.T) {
	for d, want := range map[impl.Date]string{
		ymd(2000, 1, 1):     "2000-01-01",
		ymd(1999, 12, 31):   "1999-12-31",
		ymd(-5, 3, 7):       "-0005-03-07",
		ymd(0, 1, 1):        "0000-01-01",
		ymd(1, 10, 9):       "0001-10-09",
		ymd(-1, 9, 10):      "-0001-09-10",
		ymd(12, 1, 1):       "0012-01-01",
		ymd(-123, 1, 1):     "-0123-01-01",
		ymd(-5000, 1, 1):    "-5000-01-01",
		ymd(9999, 12, 31):   "9999-12-31",
		ymd(2023, 2, 31):    "2023-02-31",
		ymd(2023, 4, 31):    "2023-04-31",
		ymd(-5001, 1, 1):    "",
		ymd(10000, 1, 1):    "",
		ymd(2000, 0, 1):     "",
		ymd(2000, 13, 1):    "",
		ymd(2000, -1, 1):    "",
		ymd(2000, 1, 0):     "",
		ymd(2000, 1, 32):    "",
		ymd(2000, 1, -1):    "",
		ymd(0, 0, 0):        "",
		ymd(2000, 12, 100):  "",
		ymd(-2000, 100, 10): "",
		ymd(math.MinInt, math.MinInt, math.MinInt): "",
		ymd(math.MaxInt, math.MaxInt, math.MaxInt): "",
		ymd(math.MinInt, 1, 1):                     "",
		ymd(2000, math.MinInt, 1):                  "",
		ymd(2000, 1, math.MaxInt):                  "",
	} {
		if got := impl.DateText(d); got != want {
			t.Errorf("%v: %q, not %q", d, got, want)
		}
	}
}

func TestReadDate(t *testing.T) {
	for _, c := range knownDays {
		text := impl.DateText(c.date)
		if day, ok := impl.ReadDate(c.cal, text); !ok || day != c.day {
			t.Errorf("%d %q: %d %t, not %d", c.cal, text, day, ok, c.day)
		}
		for _, cal := range noCals {
			if day, ok := impl.ReadDate(cal, text); ok || day != 0 {
				t.Errorf("%d %q: %d %t", cal, text, day, ok)
			}
		}
	}
}

func TestReadDateNone(t *testing.T) {
	texts := []string{
		"", "-", "--", "---", "2", "2000", "2000-", "2000-01", "2000-01-", "2000-01-1", "2000-1-01",
		"200-01-01", "2000-1-1", "20000-01-01", "02000-01-01", "2000-001-01", "2000-01-001", "-05-01-01",
		"-0000-01-01", "-00001-01-01", "+2000-01-01", "2000-+1-01", "2000-01-+1", "+200-01-01", "--200-01-01",
		"--2000-01-01", "2000--1-01", "2000-01--1", "2000-01-01-", "2000-01-01-01", "-2000-01-01-", "2000-01-010",
		" 2000-01-01", "2000-01-01 ", "2000-01-01\n", "2000-01-01\x00", "\x002000-01-01", "2000 01 01", "2000/01/01",
		"2000.01.01", "20000101", "2000-0101", "200001-01", "200O-01-01", "2000-O1-01", "2000-01-O1", "2_00-01-01",
		"0x10-01-01", "1e03-01-01", "２０００-０１-０１", "2000–01–01", "2000-01-0१", "abcd-ef-gh",
		"2000-00-01", "2000-13-01", "2000-99-01", "2000-01-00", "2000-01-32", "2000-04-31", "2000-02-30", "2023-02-29",
		"-5001-01-01", "10000-01-01", "-9999-01-01",
		// dates, but of no days
		"9999-12-31", "-5000-01-01", "4738-01-01", "-0739-12-31",
		"99999999999999999999-01-01", "2000-99999999999999999999-01", "2000-01-99999999999999999999",
		"9223372036854775807-01-01", "-9223372036854775808-01-01", "9223372036854777808-01-01",
		strings.Repeat("0", 100000) + "2000-01-01", strings.Repeat("-", 100000), "2000-01-01" + strings.Repeat("-01", 100000),
	}
	for _, cal := range append(noCals, bothCals...) {
		for _, text := range texts {
			if day, ok := impl.ReadDate(cal, text); ok || day != 0 {
				t.Errorf("%d %.40q: %d %t", cal, text, day, ok)
			}
		}
	}
	for text, cal := range map[string]int{
		"1900-02-29": impl.CalNew, "-0100-02-29": impl.CalNew,
		"-0738-02-02": impl.CalNew, "4737-11-29": impl.CalNew,
		"-0738-02-10": impl.CalOld, "4737-10-26": impl.CalOld,
	} {
		if day, ok := impl.ReadDate(cal, text); ok || day != 0 {
			t.Errorf("%d %q: %d %t", cal, text, day, ok)
		}
	}
}
