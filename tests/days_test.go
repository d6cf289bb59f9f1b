package tests

import (
	"math"
	"slices"
	"testing"
	"time"

	"loop.example/g00126/impl"
)

const (
	lastDay     = impl.MaxDay
	mostOff     = 400
	mostWork    = 400
	leastOfInt  = math.MinInt
	greatestInt = math.MaxInt
)

// edgeDays are the ints at which a day, a week, a count of working days or int itself begins or ends.
var edgeDays = []int{
	leastOfInt, leastOfInt + 1, -1 << 32, -lastDay, -401, -7, -2, -1,
	0, 1, 2, 3, 6, 7, 8, 9, 58, 59, 60, 365, 366, 399, 400, 401, 36583, 36584, 36585,
	lastDay - 8, lastDay - 2, lastDay - 1, lastDay, lastDay + 1, lastDay + 2, 20000101, 1 << 32, 1<<32 + 5, greatestInt - 1, greatestInt,
}

func isDay(d int) bool { return within(d, 0, lastDay) }

// calendarDay is Go's own calendar, as the other side to hold the program against.
func calendarDay(d int) time.Time {
	return time.Date(2000, time.January, 1+d, 0, 0, 0, 0, time.UTC)
}

func isOffList(off []int) bool {
	if len(off) > mostOff {
		return false
	}
	for i, d := range off {
		if !isDay(d) || i > 0 && off[i-1] >= d {
			return false
		}
	}
	return true
}

func isWorkDay(d int, off []int) bool {
	week := calendarDay(d).Weekday()
	return week != time.Saturday && week != time.Sunday && !slices.Contains(off, d)
}

func wantAddWork(d, n int, off []int) (int, bool) {
	if !isDay(d) || !within(n, 0, mostWork) || !isOffList(off) {
		return 0, false
	}
	for n > 0 {
		d++
		if d > lastDay {
			return 0, false
		}
		if isWorkDay(d, off) {
			n--
		}
	}
	return d, true
}

func wantWorkBetween(a, b int, off []int) int {
	if !isDay(a) || !isDay(b) || !isOffList(off) {
		return -1
	}
	count := 0
	for d := a + 1; d <= b; d++ {
		if isWorkDay(d, off) {
			count++
		}
	}
	return count
}

// daysFrom is n days, each step behind the one ahead of it.
func daysFrom(first, step, n int) []int {
	list := make([]int, n)
	for i := range list {
		list[i] = first + i*step
	}
	return list
}

// workDaysFrom is n Mondays to Fridays in a row.
func workDaysFrom(first, n int) []int {
	var list []int
	for d := first; len(list) < n; d++ {
		if isWorkDay(d, nil) {
			list = append(list, d)
		}
	}
	return list
}

func goodOffLists() [][]int {
	return [][]int{
		nil,
		{},
		{0},
		{2},
		{lastDay},
		{0, lastDay},
		{2, 3, 4},
		{2, 3, 4, 5, 6, 9},
		{0, 1, 7, 8},
		{1, 2, 8, 9, 10, 16},
		{59, 60, 61},
		{lastDay - 2, lastDay - 1},
		{lastDay - 1, lastDay},
		daysFrom(0, 1, mostOff-1),
		daysFrom(0, 1, mostOff),
		daysFrom(2, 7, mostOff),
		daysFrom(0, 200, mostOff),
		daysFrom(lastDay-mostOff+1, 1, mostOff),
		workDaysFrom(2, mostOff),
	}
}

func badOffLists() [][]int {
	late := daysFrom(10, 3, mostOff)
	late[mostOff-1] = late[mostOff-2]
	return [][]int{
		{2, 2},
		{5, 4},
		{4, 5, 5},
		{4, 6, 5},
		{0, 0},
		{lastDay, lastDay},
		{lastDay, 0},
		{-1},
		{-1, 0},
		{-2, -1},
		{3, -1},
		{lastDay + 1},
		{lastDay, lastDay + 1},
		{2, greatestInt},
		{leastOfInt},
		{leastOfInt, 2},
		{1 << 32},
		{2 + 1<<32},
		daysFrom(0, 1, mostOff+1),
		daysFrom(2, 7, mostOff+1),
		daysFrom(0, 100, 801),
		daysFrom(lastDay-mostOff, 1, mostOff+1),
		daysFrom(lastDay-mostOff+2, 1, mostOff),
		late,
	}
}

func TestDayOk(t *testing.T) {
	if impl.MaxDay != 80000 {
		t.Error("MaxDay is", impl.MaxDay)
	}
	for _, d := range edgeDays {
		if got := impl.DayOk(d); got != isDay(d) {
			t.Errorf("DayOk(%d) = %v", d, got)
		}
	}
}

func TestEveryDayAndItsDate(t *testing.T) {
	for d := 0; d <= lastDay; d++ {
		day := calendarDay(d)
		date := day.Year()*10000 + int(day.Month())*100 + day.Day()
		if got := impl.DateOf(d); got != date {
			t.Fatalf("DateOf(%d) = %d, want %d", d, got, date)
		}
		if got, ok := impl.DayOf(date); !ok || got != d {
			t.Fatalf("DayOf(%d) = %d, %v; want %d, true", date, got, ok, d)
		}
		text := day.Format("2006-01-02")
		if got := impl.DateText(d); got != text {
			t.Fatalf("DateText(%d) = %q, want %q", d, got, text)
		}
		if got, ok := impl.ReadDate(text); !ok || got != d {
			t.Fatalf("ReadDate(%q) = %d, %v; want %d, true", text, got, ok, d)
		}
		if got, want := impl.WeekDay(d), (int(day.Weekday())+6)%7; got != want {
			t.Fatalf("WeekDay(%d) = %d, want %d", d, got, want)
		}
		if got, want := impl.Works(d, nil), isWorkDay(d, nil); got != want {
			t.Fatalf("Works(%d, nil) = %v, want %v", d, got, want)
		}
	}
}

// The dates here are from a calendar on paper, lest both calendars err alike.
func TestNamedDates(t *testing.T) {
	cases := []struct {
		d, date int
		text    string
		week    int
	}{
		{0, 20000101, "2000-01-01", 5},
		{1, 20000102, "2000-01-02", 6},
		{2, 20000103, "2000-01-03", 0},
		{30, 20000131, "2000-01-31", 0},
		{31, 20000201, "2000-02-01", 1},
		{58, 20000228, "2000-02-28", 0},
		{59, 20000229, "2000-02-29", 1},
		{60, 20000301, "2000-03-01", 2},
		{365, 20001231, "2000-12-31", 6},
		{366, 20010101, "2001-01-01", 0},
		{424, 20010228, "2001-02-28", 2},
		{425, 20010301, "2001-03-01", 3},
		{1520, 20040229, "2004-02-29", 6},
		{1521, 20040301, "2004-03-01", 0},
		{36583, 21000228, "2100-02-28", 6},
		{36584, 21000301, "2100-03-01", 0},
		{73107, 22000228, "2200-02-28", 4},
		{73108, 22000301, "2200-03-01", 5},
		{79987, 22181231, "2218-12-31", 3},
		{79988, 22190101, "2219-01-01", 4},
		{lastDay, 22190113, "2219-01-13", 2},
	}
	for _, c := range cases {
		if impl.DateOf(c.d) != c.date || impl.DateText(c.d) != c.text || impl.WeekDay(c.d) != c.week {
			t.Errorf("day %d: %d, %q, %d; want %d, %q, %d", c.d, impl.DateOf(c.d), impl.DateText(c.d), impl.WeekDay(c.d), c.date, c.text, c.week)
		}
		if d, ok := impl.DayOf(c.date); !ok || d != c.d {
			t.Errorf("DayOf(%d) = %d, %v", c.date, d, ok)
		}
		if d, ok := impl.ReadDate(c.text); !ok || d != c.d {
			t.Errorf("ReadDate(%q) = %d, %v", c.text, d, ok)
		}
	}
}

func TestNoDayHasNoDate(t *testing.T) {
	for _, d := range edgeDays {
		if isDay(d) {
			continue
		}
		if impl.DateOf(d) != 0 || impl.WeekDay(d) != -1 || impl.DateText(d) != "" || impl.Works(d, nil) {
			t.Errorf("day %d: %d, %d, %q, %v", d, impl.DateOf(d), impl.WeekDay(d), impl.DateText(d), impl.Works(d, nil))
		}
	}
}

func allDates() map[int]int {
	dates := make(map[int]int, lastDay+1)
	for d := 0; d <= lastDay; d++ {
		day := calendarDay(d)
		dates[day.Year()*10000+int(day.Month())*100+day.Day()] = d
	}
	return dates
}

func TestDayOfTakesDatesAlone(t *testing.T) {
	dates := allDates()
	for date := 19980000; date <= 22220000; date++ {
		want, known := dates[date]
		if got, ok := impl.DayOf(date); ok != known || got != want {
			t.Fatalf("DayOf(%d) = %d, %v; want %d, %v", date, got, ok, want, known)
		}
	}
}

func TestDayOfRefuses(t *testing.T) {
	wrong := []int{
		leastOfInt, leastOfInt + 1, -20000101, -1, 0, 1, 101, 1231, 10101, 19991231, 19960229,
		20000001, 20001301, 20000100, 20000132, 20000230, 20000431, 20000631, 20000931, 20001131, 20001232, 20009901, 20000199,
		20010229, 21000229, 22000229, 22190114, 22190201, 22200101, 23000101, 24000229, 99991231, 100000101, 200001011,
		20000101 + 1<<32, 20000101 - 1<<32, 20000101 + 1<<40, greatestInt/10000*10000 + 101, greatestInt - 1, greatestInt,
	}
	for _, date := range wrong {
		if d, ok := impl.DayOf(date); ok || d != 0 {
			t.Errorf("DayOf(%d) = %d, %v", date, d, ok)
		}
	}
}

// A year so far off that counting its days one year at a time would not end, or that would come back by wrapping round.
func TestDayOfFarYears(t *testing.T) {
	for year := greatestInt / 10000; year > 3000; year = year/3*2 + 1 {
		for _, rest := range []int{101, 229, 1231} {
			if d, ok := impl.DayOf(year*10000 + rest); ok || d != 0 {
				t.Errorf("DayOf(%d) = %d, %v", year*10000+rest, d, ok)
			}
		}
	}
}

func TestReadDateNearTexts(t *testing.T) {
	days := map[string]int{}
	for d := 0; d <= lastDay; d++ {
		days[calendarDay(d).Format("2006-01-02")] = d
	}
	ask := func(s string) {
		want, known := days[s]
		if got, ok := impl.ReadDate(s); ok != known || got != want {
			t.Errorf("ReadDate(%q) = %d, %v; want %d, %v", s, got, ok, want, known)
		}
	}
	for _, s := range []string{"2000-01-01", "2000-02-29", "2100-02-28", "2001-12-31", "2219-01-13"} {
		for i := range len(s) {
			ask(s[:i])
			ask(s[:i] + s[i+1:])
			for b := range 256 {
				ask(s[:i] + string([]byte{byte(b)}) + s[i+1:])
				ask(s[:i] + string([]byte{byte(b)}) + s[i:])
			}
		}
		for b := range 256 {
			ask(s + string([]byte{byte(b)}))
		}
	}
}

func TestReadDateRefuses(t *testing.T) {
	wrong := []string{
		"", "-", "--", "2000", "20000101", "2000-0101", "200001-01", "2000-1-01", "2000-01-1", "2000-2-029", "200-001-01", "02000-01-01", "2000-01-001", "2000-001-01",
		"2000/01/01", "2000 01 01", " 2000-01-01", "2000-01-01 ", "2000-01-01\n", "+2000-01-01", "-2000-01-01", "--2000-01-01", "2000--01-01", "2000-01--01", "2000-01-01-",
		"2000-00-01", "2000-13-01", "2000-01-00", "2000-01-32", "2000-04-31", "2000-02-30", "2001-02-29", "2100-02-29", "2200-02-29",
		"1999-12-31", "2219-01-14", "9999-12-31", "0000-01-01", "01-01-2000", "2000-01-0x", "2_00-01-01", "2000-01-01\x00", "２000-01-01", "99999999999999999999-01-01",
	}
	for _, s := range wrong {
		if d, ok := impl.ReadDate(s); ok || d != 0 {
			t.Errorf("ReadDate(%q) = %d, %v", s, d, ok)
		}
	}
}

func TestWorks(t *testing.T) {
	for _, off := range goodOffLists() {
		for _, d := range edgeDays {
			want := isDay(d) && isWorkDay(d, off)
			if got := impl.Works(d, off); got != want {
				t.Errorf("Works(%d, %d days off) = %v", d, len(off), got)
			}
		}
		for d := 0; d <= 3000; d++ {
			if got := impl.Works(d, off); got != isWorkDay(d, off) {
				t.Errorf("Works(%d, %d days off) = %v", d, len(off), got)
			}
		}
	}
}

func TestAddWorkNamed(t *testing.T) {
	cases := []struct {
		d, n int
		off  []int
		want int
	}{
		{0, 0, nil, 0},
		{0, 1, nil, 2},
		{1, 1, nil, 2},
		{2, 1, nil, 3},
		{2, 0, nil, 2},
		{2, 0, []int{2}, 2},
		{6, 1, nil, 9},
		{0, 5, nil, 6},
		{0, 6, nil, 9},
		{0, 400, nil, 559},
		{2, 1, []int{2}, 3},
		{2, 1, []int{3}, 4},
		{2, 1, []int{3, 4, 5, 6}, 9},
		{2, 1, []int{7, 8}, 3},
		{6, 1, []int{7, 8}, 9},
		{6, 1, []int{7, 8, 9}, 10},
		{58, 1, nil, 59},
		{58, 2, []int{59}, 61},
		{lastDay, 0, nil, lastDay},
		{lastDay - 1, 1, nil, lastDay},
		{lastDay - 1, 0, []int{lastDay}, lastDay - 1},
		{79440, 400, nil, lastDay},
		{79439, 400, []int{79440}, lastDay},
	}
	for _, c := range cases {
		if got, ok := impl.AddWork(c.d, c.n, c.off); !ok || got != c.want {
			t.Errorf("AddWork(%d, %d, %v) = %d, %v; want %d, true", c.d, c.n, c.off, got, ok, c.want)
		}
	}
}

func TestAddWorkRefuses(t *testing.T) {
	cases := []struct {
		d, n int
		off  []int
	}{
		{-1, 0, nil},
		{-1, 1, nil},
		{lastDay + 1, 0, nil},
		{leastOfInt, 1, nil},
		{greatestInt, 1, nil},
		{greatestInt, 0, nil},
		{0, -1, nil},
		{0, 401, nil},
		{0, leastOfInt, nil},
		{0, greatestInt, nil},
		{0, 1 << 32, nil},
		{lastDay, 1, nil},
		{lastDay, 400, nil},
		{lastDay - 1, 2, nil},
		{lastDay - 1, 1, []int{lastDay}},
		{lastDay - 2, 1, []int{lastDay - 1, lastDay}},
		{79441, 400, nil},
		{79440, 400, []int{lastDay}},
	}
	for _, c := range cases {
		if got, ok := impl.AddWork(c.d, c.n, c.off); ok || got != 0 {
			t.Errorf("AddWork(%d, %d, %v) = %d, %v; want 0, false", c.d, c.n, c.off, got, ok)
		}
	}
}

func TestAddWorkIsCounted(t *testing.T) {
	starts := append(daysFrom(0, 1, 30), edgeDays...)
	counts := []int{leastOfInt, -1, 0, 1, 2, 3, 4, 5, 6, 7, 20, 45, 399, 400, 401, greatestInt}
	for _, off := range goodOffLists() {
		for _, d := range starts {
			for _, n := range counts {
				want, wantOk := wantAddWork(d, n, off)
				if got, ok := impl.AddWork(d, n, off); got != want || ok != wantOk {
					t.Errorf("AddWork(%d, %d, %d days off) = %d, %v; want %d, %v", d, n, len(off), got, ok, want, wantOk)
				}
			}
		}
	}
}

func TestWorkBetweenNamed(t *testing.T) {
	cases := []struct {
		a, b int
		off  []int
		want int
	}{
		{0, 9, nil, 6},
		{0, 0, nil, 0},
		{2, 2, nil, 0},
		{0, 1, nil, 0},
		{1, 2, nil, 1},
		{2, 3, nil, 1},
		{2, 9, nil, 5},
		{9, 0, nil, 0},
		{3, 2, nil, 0},
		{lastDay, 0, nil, 0},
		{lastDay, lastDay, nil, 0},
		{lastDay - 1, lastDay, nil, 1},
		{lastDay - 1, lastDay, []int{lastDay}, 0},
		{2, 9, []int{2}, 5},
		{2, 9, []int{9}, 4},
		{2, 9, []int{7, 8}, 5},
		{2, 9, []int{3, 4, 5, 6, 9}, 0},
		{2, 9, []int{10}, 5},
		{0, lastDay, nil, 57143},
		{0, lastDay, []int{2, 7, lastDay}, 57141},
		{-1, 0, nil, -1},
		{0, -1, nil, -1},
		{-1, -1, nil, -1},
		{0, lastDay + 1, nil, -1},
		{lastDay + 1, 0, nil, -1},
		{lastDay + 1, lastDay + 1, nil, -1},
		{leastOfInt, greatestInt, nil, -1},
		{greatestInt, leastOfInt, nil, -1},
	}
	for _, c := range cases {
		if got := impl.WorkBetween(c.a, c.b, c.off); got != c.want {
			t.Errorf("WorkBetween(%d, %d, %v) = %d, want %d", c.a, c.b, c.off, got, c.want)
		}
	}
}

func TestWorkBetweenIsCounted(t *testing.T) {
	near := append(daysFrom(0, 1, 25), edgeDays...)
	for _, off := range goodOffLists() {
		for _, a := range near {
			for _, b := range near {
				// The greatest stretches are counted in the named cases; here they would only take long.
				if isDay(a) && isDay(b) && b-a > 1000 {
					continue
				}
				if got, want := impl.WorkBetween(a, b, off), wantWorkBetween(a, b, off); got != want {
					t.Errorf("WorkBetween(%d, %d, %d days off) = %d, want %d", a, b, len(off), got, want)
				}
			}
		}
	}
}

func TestWorkBetweenOfAllDays(t *testing.T) {
	for _, off := range goodOffLists() {
		want := 57143
		for _, d := range off {
			if d > 0 && isWorkDay(d, nil) {
				want--
			}
		}
		if got := impl.WorkBetween(0, lastDay, off); got != want {
			t.Errorf("WorkBetween(0, %d, %d days off) = %d, want %d", lastDay, len(off), got, want)
		}
	}
}

func TestSoManyWorkingDaysOnThereAreSoManyBetween(t *testing.T) {
	for _, off := range goodOffLists() {
		for _, d := range []int{0, 1, 2, 5, 6, 7, 8, 9, 57, 58, 59, 364, 365, 400, 36580, 36583, 79000, 79440, 79995, lastDay} {
			for n := 0; n <= mostWork; n += 7 {
				end, ok := impl.AddWork(d, n, off)
				if !ok {
					if n == 0 || d < 79000 {
						t.Errorf("AddWork(%d, %d, %d days off) is refused", d, n, len(off))
					}
					continue
				}
				if got := impl.WorkBetween(d, end, off); got != n {
					t.Errorf("WorkBetween(%d, %d, %d days off) = %d, want %d", d, end, len(off), got, n)
				}
				if n > 0 && (!impl.Works(end, off) || impl.WorkBetween(d, end-1, off) != n-1) {
					t.Errorf("AddWork(%d, %d, %d days off) = %d is not the first one", d, n, len(off), end)
				}
			}
		}
	}
}

func TestNoHolidayList(t *testing.T) {
	for i, off := range badOffLists() {
		for _, d := range append(daysFrom(0, 1, 12), edgeDays...) {
			if impl.Works(d, off) {
				t.Errorf("list %d: Works(%d)", i, d)
			}
			for _, n := range []int{0, 1, 400, 401, -1} {
				if got, ok := impl.AddWork(d, n, off); ok || got != 0 {
					t.Errorf("list %d: AddWork(%d, %d) = %d, %v", i, d, n, got, ok)
				}
			}
			for _, b := range []int{-1, 0, 2, 9, lastDay, lastDay + 1} {
				if got := impl.WorkBetween(d, b, off); got != -1 {
					t.Errorf("list %d: WorkBetween(%d, %d) = %d", i, d, b, got)
				}
			}
		}
	}
}

// A fault is looked for at every place of the longest list, not at its ends alone.
func TestHolidayListIsAskedThroughout(t *testing.T) {
	for i := range mostOff {
		for _, wrong := range []int{-1, lastDay + 1, leastOfInt, greatestInt} {
			off := daysFrom(100, 5, mostOff)
			off[i] = wrong
			if impl.Works(2, off) || impl.WorkBetween(2, 9, off) != -1 {
				t.Errorf("%d at place %d is taken", wrong, i)
			}
		}
		if i == 0 {
			continue
		}
		off := daysFrom(100, 5, mostOff)
		off[i] = off[i-1]
		if _, ok := impl.AddWork(2, 0, off); ok || impl.Works(2, off) {
			t.Errorf("twice the same at place %d is taken", i)
		}
		off[i]--
		if _, ok := impl.AddWork(2, 0, off); ok || impl.Works(2, off) {
			t.Errorf("a lesser one at place %d is taken", i)
		}
	}
}

func TestHolidayListIsNotWrittenInto(t *testing.T) {
	for _, list := range append(goodOffLists(), badOffLists()...) {
		room := make([]int, len(list)+8)
		copy(room, list)
		for i := len(list); i < len(room); i++ {
			room[i] = 70000 + i
		}
		kept := slices.Clone(room)
		off := room[:len(list)]
		for _, d := range []int{-1, 0, 2, 7, 5000, lastDay} {
			impl.Works(d, off)
			impl.AddWork(d, 0, off)
			impl.AddWork(d, 30, off)
			impl.AddWork(d, 401, off)
			impl.WorkBetween(d, 90, off)
			impl.WorkBetween(90, d, off)
		}
		if !slices.Equal(room, kept) {
			t.Errorf("a list of %d days was written into", len(list))
		}
	}
}

// A list may change from call to call, and nothing of an earlier one may be left.
func TestHolidayListIsNotKept(t *testing.T) {
	off := []int{2}
	if impl.Works(2, off) {
		t.Error("day 2 is off")
	}
	off[0] = 3
	if !impl.Works(2, off) || impl.Works(3, off) {
		t.Error("day 3 is off now, and 2 is not")
	}
	if d, ok := impl.AddWork(0, 2, off); !ok || d != 4 {
		t.Error("AddWork answers", d, ok)
	}
	if got := impl.WorkBetween(0, 3, off); got != 1 {
		t.Error("WorkBetween answers", got)
	}
	if !impl.Works(3, nil) {
		t.Error("day 3 is not off without a list")
	}
}
