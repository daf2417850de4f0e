package tests

import (
	"math/rand"
	"testing"
	"time"

	"loop.example/g00025/impl"
)

// walkedLength is the length of a month by the document's words alone.
func walkedLength(cal, year, month int) int {
	switch month {
	case 4, 6, 9, 11:
		return 30
	case 2:
		if year%4 != 0 || cal == impl.CalNew && year%100 == 0 && year%400 != 0 {
			return 28
		}
		return 29
	}
	return 31
}

func nextDate(cal int, d impl.Date) impl.Date {
	d.Day++
	if d.Day > walkedLength(cal, d.Year, d.Month) {
		d.Day = 1
		d.Month++
	}
	if d.Month > 12 {
		d.Month = 1
		d.Year++
	}
	return d
}

func dateBefore(cal int, d impl.Date) impl.Date {
	d.Day--
	if d.Day > 0 {
		return d
	}
	d.Month--
	if d.Month < 1 {
		d.Month = 12
		d.Year--
	}
	d.Day = walkedLength(cal, d.Year, d.Month)
	return d
}

func holdsDate(t *testing.T, cal, day int, want impl.Date) {
	t.Helper()
	if got := impl.DateOf(cal, day); got != want {
		t.Fatalf("DateOf %d %d: %v, not %v", cal, day, got, want)
	}
	if got, ok := impl.DayOf(cal, want); !ok || got != day {
		t.Fatalf("DayOf %d %v: %d %t, not %d", cal, want, got, ok, day)
	}
	text := impl.DateText(want)
	if got, ok := impl.ReadDate(cal, text); !ok || got != day {
		t.Fatalf("ReadDate %d %q: %d %t, not %d", cal, text, got, ok, day)
	}
}

// Every day of both calendars, walked from day 0 to both ends, and one beyond.
func TestEveryDay(t *testing.T) {
	for cal, zero := range map[int]impl.Date{impl.CalNew: ymd(2000, 1, 1), impl.CalOld: ymd(1999, 12, 19)} {
		d := zero
		for day := 0; day <= impl.MaxDay; day++ {
			holdsDate(t, cal, day, d)
			d = nextDate(cal, d)
		}
		wantNoDay(t, cal, d)
		d = zero
		for day := 0; day >= -impl.MaxDay; day-- {
			holdsDate(t, cal, day, d)
			d = dateBefore(cal, d)
		}
		wantNoDay(t, cal, d)
	}
}

// The library's calendar is the new one, and has the same weeks.
func TestEveryDayByLibrary(t *testing.T) {
	at := time.Date(2000, 1, 1-impl.MaxDay, 0, 0, 0, 0, time.UTC)
	for day := -impl.MaxDay; day <= impl.MaxDay; day++ {
		year, month, dayOf := at.Date()
		if got := impl.DateOf(impl.CalNew, day); got != ymd(year, int(month), dayOf) {
			t.Fatalf("%d: %v, not %d-%d-%d", day, got, year, month, dayOf)
		}
		if got, want := impl.Weekday(day), (int(at.Weekday())+6)%7; got != want {
			t.Fatalf("Weekday %d: %d, not %d", day, got, want)
		}
		wantYear, wantWeek := at.ISOWeek()
		if y, w := impl.WeekOf(day); y != wantYear || w != wantWeek {
			t.Fatalf("WeekOf %d: %d %d, not %d %d", day, y, w, wantYear, wantWeek)
		}
		at = at.AddDate(0, 0, 1)
	}
}

// Dates of all years, also those without days: there is one exactly where the
// month has it, and it shows the same day as the walk does.
func TestEveryMonth(t *testing.T) {
	for _, cal := range bothCals {
		for year := -5001; year <= 10000; year++ {
			for month := 0; month <= 13; month++ {
				want := 0
				if year >= -5000 && year <= 9999 && month >= 1 && month <= 12 {
					want = walkedLength(cal, year, month)
				}
				if got := impl.MonthDays(cal, year, month); got != want {
					t.Fatalf("%d %d-%d: %d, not %d", cal, year, month, got, want)
				}
				if got := impl.AddMonths(cal, ymd(year, month, want), 0); want > 0 && got != ymd(year, month, want) {
					t.Fatalf("%d %d-%d: the last day is none", cal, year, month)
				}
				if got := impl.AddMonths(cal, ymd(year, month, want+1), 0); got != (impl.Date{}) {
					t.Fatalf("%d %d-%d: a day behind the last one", cal, year, month)
				}
			}
			want := year >= -5000 && year <= 9999 && walkedLength(cal, year, 2) == 29
			if got := impl.LeapYear(cal, year); got != want {
				t.Fatalf("%d %d: %t", cal, year, got)
			}
		}
	}
}

// walkedMonths goes month by month.
func walkedMonths(cal int, d impl.Date, months int) impl.Date {
	for ; months > 0; months-- {
		d.Month++
		if d.Month > 12 {
			d.Month, d.Year = 1, d.Year+1
		}
	}
	for ; months < 0; months++ {
		d.Month--
		if d.Month < 1 {
			d.Month, d.Year = 12, d.Year-1
		}
	}
	if d.Year < -5000 || d.Year > 9999 {
		return impl.Date{}
	}
	d.Day = min(d.Day, walkedLength(cal, d.Year, d.Month))
	return d
}

func randomDate(r *rand.Rand, cal int) impl.Date {
	year, month := r.Intn(15000)-5000, r.Intn(12)+1
	last := walkedLength(cal, year, month)
	return ymd(year, month, last-r.Intn(4)*r.Intn(2)*r.Intn(7))
}

func TestAddMonthsWalked(t *testing.T) {
	r := rand.New(rand.NewSource(2))
	for range 20000 {
		cal := bothCals[r.Intn(2)]
		d := randomDate(r, cal)
		months := r.Intn(201) - 100
		if r.Intn(20) == 0 {
			months = r.Intn(200001) - 100000
		}
		if got, want := impl.AddMonths(cal, d, months), walkedMonths(cal, d, months); got != want {
			t.Fatalf("%d %v and %d: %v, not %v", cal, d, months, got, want)
		}
	}
}

// walkedWorkdays asks day by day.
func walkedWorkdays(from, to int, free []int) int {
	if to < from {
		return -walkedWorkdays(to, from, free)
	}
	isFree := map[int]bool{}
	for _, day := range free {
		isFree[day] = true
	}
	count := 0
	for day := from; day <= to; day++ {
		if at := time.Date(2000, 1, 1+day, 0, 0, 0, 0, time.UTC).Weekday(); at != time.Saturday && at != time.Sunday && !isFree[day] {
			count++
		}
	}
	return count
}

func randomFree(r *rand.Rand, near int) []int {
	free := make([]int, r.Intn(30))
	for i := range free {
		free[i] = near + r.Intn(80) - 20
	}
	return free
}

func TestWorkdaysWalked(t *testing.T) {
	r := rand.New(rand.NewSource(3))
	for range 20000 {
		from := r.Intn(2*impl.MaxDay-100) - impl.MaxDay + 50
		if r.Intn(2) == 0 {
			from = r.Intn(100) - 50
		}
		to := from + r.Intn(91) - 30
		to = max(min(to, impl.MaxDay), -impl.MaxDay)
		free := randomFree(r, min(from, to))
		if got, want := impl.Workdays(from, to, free), walkedWorkdays(from, to, free); got != want {
			t.Fatalf("%d to %d without %v: %d, not %d", from, to, free, got, want)
		}
		if got, back := impl.Workdays(from, to, free), impl.Workdays(to, from, free); from != to && got != -back {
			t.Fatalf("%d to %d without %v: %d, and back %d", from, to, free, got, back)
		}
	}
}

// What is counted in two parts is what is counted in one.
func TestWorkdaysAddUp(t *testing.T) {
	r := rand.New(rand.NewSource(4))
	for range 20000 {
		cuts := [3]int{r.Intn(2*impl.MaxDay+1) - impl.MaxDay, r.Intn(2*impl.MaxDay+1) - impl.MaxDay, r.Intn(2*impl.MaxDay+1) - impl.MaxDay}
		from, to := min(cuts[0], cuts[1], cuts[2]), max(cuts[0], cuts[1], cuts[2])
		middle := cuts[0] + cuts[1] + cuts[2] - from - to
		if middle == to {
			continue
		}
		free := append(randomFree(r, middle), from, to, middle, middle+1)
		all := impl.Workdays(from, to, free)
		first, second := impl.Workdays(from, middle, free), impl.Workdays(middle+1, to, free)
		if all != first+second {
			t.Fatalf("%d, %d, %d without %v: %d and %d are not %d", from, middle, to, free, first, second, all)
		}
	}
}
