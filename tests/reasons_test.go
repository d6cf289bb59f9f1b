package tests

import (
	"os"
	"os/exec"
	"slices"
	"strconv"
	"strings"
	"sync"
	"testing"

	"loop.example/g00126/impl"
)

// reasonRow is what the chapter says of a reason, written here a second time to hold the program against.
type reasonRow struct {
	code  int
	text  string
	days  int
	part  bool
	proof bool
}

var reasonRows = []reasonRow{
	{4831, "amount", 45, true, false},
	{4834, "twice", 45, false, true},
	{4837, "fraud", 85, false, true},
	{4841, "cancelled", 45, false, false},
	{4853, "quality", 65, true, false},
	{4855, "none", 65, false, false},
}

var daysOfSteps = []int{30, 30, 15, 60, 20}

// dayCounts are counts of working days at the bounds of AddWork, and all that the chapter itself names.
var dayCounts = []int{
	leastOfInt, -1 << 32, -401, -400, -2, -1, 0, 1, 2, 4, 5, 6, 7, 15, 20, 30, 45, 60, 65, 85,
	mostWork - 1, mostWork, mostWork + 1, 1 << 32, 1<<32 + 1, greatestInt,
}

// wantReason answers the row of no reason for any other code.
func wantReason(code int) (reasonRow, bool) {
	for _, row := range reasonRows {
		if row.code == code {
			return row, true
		}
	}
	return reasonRow{code: code, days: -1}, false
}

func wantReadReason(s string) int {
	for _, row := range reasonRows {
		if row.text == s {
			return row.code
		}
	}
	return -1
}

func wantStepDays(step int) int {
	if !within(step, 0, 4) {
		return -1
	}
	return daysOfSteps[step]
}

func wantDeadline(day, days int, off []int) int {
	due, ok := wantAddWork(day, days, off)
	if !ok {
		return -1
	}
	return due
}

func wantLate(today, due int) bool { return isDay(today) && isDay(due) && today > due }

func askReason(t *testing.T, code int) {
	t.Helper()
	want, ok := wantReason(code)
	got := reasonRow{code, impl.ReasonText(code), impl.ReasonDays(code), impl.ReasonPart(code), impl.ReasonProof(code)}
	if got != want {
		t.Errorf("reason %d is %v, want %v", code, got, want)
	}
	if gotOk := impl.ReasonOk(code); gotOk != ok {
		t.Errorf("ReasonOk(%d) = %v", code, gotOk)
	}
}

func askReadReason(t *testing.T, s string) {
	t.Helper()
	if got, want := impl.ReadReason(s), wantReadReason(s); got != want {
		t.Errorf("ReadReason(%.60q) = %d, want %d", s, got, want)
	}
}

func askStepDays(t *testing.T, step int) {
	t.Helper()
	if got, want := impl.StepDays(step), wantStepDays(step); got != want {
		t.Errorf("StepDays(%d) = %d, want %d", step, got, want)
	}
}

func askDeadline(t *testing.T, day, days int, off []int) {
	t.Helper()
	if got, want := impl.Deadline(day, days, off), wantDeadline(day, days, off); got != want {
		t.Errorf("Deadline(%d, %d, %d days off) = %d, want %d", day, days, len(off), got, want)
	}
}

func askLate(t *testing.T, today, due int) {
	t.Helper()
	if got, want := impl.Late(today, due), wantLate(today, due); got != want {
		t.Errorf("Late(%d, %d) = %v, want %v", today, due, got, want)
	}
}

func TestReasonsNamed(t *testing.T) {
	cases := []struct {
		code int
		want reasonRow
	}{
		{impl.ReasonFraud, reasonRow{4837, "fraud", 85, false, true}},
		{impl.ReasonNone, reasonRow{4855, "none", 65, false, false}},
		{impl.ReasonTwice, reasonRow{4834, "twice", 45, false, true}},
		{impl.ReasonAmount, reasonRow{4831, "amount", 45, true, false}},
		{impl.ReasonQuality, reasonRow{4853, "quality", 65, true, false}},
		{impl.ReasonCancelled, reasonRow{4841, "cancelled", 45, false, false}},
	}
	for _, c := range cases {
		if c.code != c.want.code {
			t.Errorf("the code of %s is %d, want %d", c.want.text, c.code, c.want.code)
		}
		if !impl.ReasonOk(c.code) {
			t.Errorf("ReasonOk(%d) is false", c.code)
		}
		if got := impl.ReasonDays(c.code); got != c.want.days {
			t.Errorf("ReasonDays(%d) = %d, want %d", c.code, got, c.want.days)
		}
		if got := impl.ReasonPart(c.code); got != c.want.part {
			t.Errorf("ReasonPart(%d) = %v", c.code, got)
		}
		if got := impl.ReasonProof(c.code); got != c.want.proof {
			t.Errorf("ReasonProof(%d) = %v", c.code, got)
		}
		if got := impl.ReasonText(c.code); got != c.want.text {
			t.Errorf("ReasonText(%d) = %q, want %q", c.code, got, c.want.text)
		}
		if got := impl.ReadReason(c.want.text); got != c.code {
			t.Errorf("ReadReason(%q) = %d, want %d", c.want.text, got, c.code)
		}
	}
}

func TestReasonsComeBackFromTheirTexts(t *testing.T) {
	count := 0
	for code := -1; code <= 10000; code++ {
		text := impl.ReasonText(code)
		if impl.ReasonOk(code) != (text != "") {
			t.Errorf("ReasonOk(%d) = %v, and its text is %q", code, impl.ReasonOk(code), text)
		}
		if text == "" {
			continue
		}
		count++
		if got := impl.ReadReason(text); got != code {
			t.Errorf("%d is told as %q and read as %d", code, text, got)
		}
	}
	if count != 6 {
		t.Errorf("%d codes have a text", count)
	}
}

// codesOfText are the codes that are told as s, asked one by one.
func codesOfText(s string) []int {
	var codes []int
	for code := -1; code <= 10000; code++ {
		if impl.ReasonText(code) == s {
			codes = append(codes, code)
		}
	}
	return codes
}

// withOtherCase is s with the letter at each place, one at a time, in the other case.
func withOtherCase(s string) []string {
	var list []string
	for i := range len(s) {
		list = append(list, s[:i]+strings.ToUpper(s[i:i+1])+s[i+1:])
	}
	return list
}

// Some answers come from a function and some from the map that is filled once; whichever they are, they must not contradict each other.
func TestFunctionAndMapSayTheSameOfCodes(t *testing.T) {
	codes := []int{0, -1}
	for _, row := range reasonRows {
		codes = append(codes, row.code-1, row.code, row.code+1)
	}
	for _, code := range codes {
		text, ok := impl.ReasonText(code), impl.ReasonOk(code)
		if (text != "") != ok || (impl.ReasonDays(code) != -1) != ok {
			t.Errorf("reason %d: ReasonOk is %v, its text %q and its days %d", code, ok, text, impl.ReasonDays(code))
		}
		want := -1
		if ok {
			want = code
		}
		if got := impl.ReadReason(text); got != want {
			t.Errorf("reason %d is told as %q, which is read as %d, want %d", code, text, got, want)
		}
		askReason(t, code)
	}
}

func TestFunctionAndMapSayTheSameOfTexts(t *testing.T) {
	for _, row := range reasonRows {
		if told, read := codesOfText(row.text), impl.ReadReason(row.text); read != row.code || !slices.Equal(told, []int{read}) {
			t.Errorf("%q is read as %d, and %v are told so", row.text, read, told)
		}
		for _, s := range withOtherCase(row.text) {
			if told, read := codesOfText(s), impl.ReadReason(s); read != -1 || len(told) > 0 {
				t.Errorf("%q is read as %d, and %v are told so", s, read, told)
			}
		}
	}
	// The empty text is told of all codes but the six, and read as none.
	if told, read := codesOfText(""), impl.ReadReason(""); read != -1 || len(told) != 10002-len(reasonRows) {
		t.Errorf("the empty text is read as %d, and told of %d codes", read, len(told))
	}
}

func TestReasonsAtAnyCode(t *testing.T) {
	for code := -10000; code <= 10000; code++ {
		askReason(t, code)
	}
	for _, code := range slices.Concat(edgeInts, edgeDays, dayCounts) {
		askReason(t, code)
	}
	for _, row := range reasonRows {
		// Codes that would be the same in fewer bits, or with another sign.
		for _, far := range []int{0, 1 << 8, 1 << 16, 1 << 31, 1 << 32, 1 << 48, leastOfInt} {
			for step := -1; step <= 1; step++ {
				askReason(t, row.code+far+step)
				askReason(t, -(row.code + far + step))
				askReason(t, ^(row.code + far + step))
			}
		}
	}
}

func TestNoReason(t *testing.T) {
	for _, code := range []int{-1, 0, 1, 5, 483, 4830, 4832, 4833, 4835, 4836, 4838, 4840, 4842, 4852, 4854, 4856, 48370, -4837, leastOfInt, greatestInt} {
		if impl.ReasonOk(code) || impl.ReasonDays(code) != -1 || impl.ReasonPart(code) || impl.ReasonProof(code) || impl.ReasonText(code) != "" {
			t.Errorf("%d is taken for a reason", code)
		}
	}
}

func TestReadReasonRefuses(t *testing.T) {
	texts := []string{
		"", " ", "x", "-", "0", "-1", "4837", "other", "Fraud", "FRAUD", "frauD", " fraud", "fraud ", "fraud\n", "\tfraud", "fraud\x00",
		"frau", "raud", "f", "cancel", "canceled", "fraudfraud", "fraud none", "fraud,none", "nonetwice", "qualıty", "ｆraud", "fraud\xff",
	}
	for _, s := range texts {
		if got := impl.ReadReason(s); got != -1 {
			t.Errorf("ReadReason(%q) = %d, want -1", s, got)
		}
	}
}

// nearTexts are all that one slip makes of a word, the word itself at times among them.
func nearTexts(word string) []string {
	list := []string{strings.ToUpper(word), strings.ToUpper(word[:1]) + word[1:], word + word, word + " " + word}
	for i := range len(word) + 1 {
		for b := range 256 {
			list = append(list, word[:i]+oneByte(b)+word[i:])
			if i < len(word) {
				list = append(list, word[:i]+oneByte(b)+word[i+1:])
			}
		}
		for k := i; k <= len(word); k++ {
			list = append(list, word[i:k], word[:i]+word[k:])
		}
		if i > 0 && i < len(word) {
			list = append(list, word[:i-1]+word[i:i+1]+word[i-1:i]+word[i+1:])
		}
	}
	return list
}

func TestReadReasonNearTexts(t *testing.T) {
	for _, row := range reasonRows {
		askReadReason(t, row.text)
		for _, s := range nearTexts(row.text) {
			askReadReason(t, s)
		}
		for _, other := range reasonRows {
			askReadReason(t, row.text+other.text)
			askReadReason(t, row.text+" "+other.text)
		}
		askReadReason(t, strconv.Itoa(row.code))
		askReadReason(t, row.text+strings.Repeat(" ", 1<<20))
		askReadReason(t, strings.Repeat(row.text, 1<<17))
	}
}

func TestReadReasonAnything(t *testing.T) {
	for a := range 256 {
		askReadReason(t, oneByte(a))
		for b := range 256 {
			askReadReason(t, oneByte(a)+oneByte(b))
		}
	}
	for n := range 40 {
		askReadReason(t, someText(n, 3*n))
		askReadReason(t, somePlain(n, 7*n))
		askReadReason(t, someDigits(n, n))
	}
}

func TestStepDays(t *testing.T) {
	named := []struct{ step, place, days int }{
		{impl.StepAnswer, 0, 30},
		{impl.StepSecond, 1, 30},
		{impl.StepThird, 2, 15},
		{impl.StepRule, 3, 60},
		{impl.StepCopy, 4, 20},
	}
	for _, c := range named {
		if c.step != c.place || impl.StepDays(c.step) != c.days {
			t.Errorf("step %d is %d and has %d days, want %d", c.place, c.step, impl.StepDays(c.step), c.days)
		}
	}
	for _, step := range []int{-1, 5, -5, 6, 30, 256, 1 << 32, leastOfInt, greatestInt} {
		if got := impl.StepDays(step); got != -1 {
			t.Errorf("StepDays(%d) = %d, want -1", step, got)
		}
	}
	for step := -1000; step <= 10000; step++ {
		askStepDays(t, step)
	}
	for _, step := range slices.Concat(edgeInts, edgeDays) {
		askStepDays(t, step)
	}
}

// The deadlines here are counted by hand: day 2 is a Monday, and five working days are a week.
func TestDeadlineNamed(t *testing.T) {
	cases := []struct {
		day, days int
		off       []int
		want      int
	}{
		{0, 6, nil, 9},
		{2, 0, nil, 2},
		{2, 85, nil, 121},
		{2, 65, nil, 93},
		{2, 45, nil, 65},
		{2, 30, nil, 44},
		{2, 15, nil, 23},
		{2, 60, nil, 86},
		{2, 20, nil, 30},
		{2, mostWork, nil, 562},
		{2, mostWork + 1, nil, -1},
		{2, -1, nil, -1},
		{2, 15, []int{23}, 24},
		{2, 15, []int{2}, 23},
		{2, 15, []int{3, 23}, 25},
		{2, 15, []int{21, 22}, 23},
		{2, 15, []int{24}, 23},
		{2, 15, []int{20, 23, 24, 25, 26, 27}, 31},
		{0, 0, nil, 0},
		{0, 1, nil, 2},
		{1, 1, nil, 2},
		{1, 0, []int{1}, 1},
		{-1, 0, nil, -1},
		{-1, 1, nil, -1},
		{lastDay, 0, nil, lastDay},
		{lastDay, 0, []int{lastDay}, lastDay},
		{lastDay, 1, nil, -1},
		{lastDay + 1, 0, nil, -1},
		{lastDay + 1, 1, nil, -1},
		{lastDay - 1, 1, nil, lastDay},
		{lastDay - 1, 1, []int{lastDay}, -1},
		{lastDay - 1, 2, nil, -1},
		{lastDay - 7, 5, nil, lastDay},
		{lastDay - 7, 6, nil, -1},
		{lastDay - 119, 85, nil, lastDay},
		{lastDay - 119, 86, nil, -1},
		{lastDay - 119, 85, []int{lastDay - 30}, -1},
		{79440, mostWork, nil, lastDay},
		{79441, mostWork, nil, -1},
		{2, 15, []int{5, 4}, -1},
		{2, 0, []int{5, 5}, -1},
		{2, 0, []int{-1}, -1},
		{2, 0, []int{lastDay + 1}, -1},
		{leastOfInt, leastOfInt, nil, -1},
		{greatestInt, greatestInt, nil, -1},
		{2, greatestInt, nil, -1},
	}
	for _, c := range cases {
		if got := impl.Deadline(c.day, c.days, c.off); got != c.want {
			t.Errorf("Deadline(%d, %d, %v) = %d, want %d", c.day, c.days, c.off, got, c.want)
		}
	}
}

func TestDeadlineIsCounted(t *testing.T) {
	for _, off := range goodOffLists() {
		for _, day := range append(daysFrom(0, 1, 16), edgeDays...) {
			for _, days := range dayCounts {
				askDeadline(t, day, days, off)
			}
		}
	}
}

// A deadline that is just not to be had is looked for at each count, up to the last day that there is.
func TestDeadlineAtTheLastDay(t *testing.T) {
	for _, off := range [][]int{nil, {lastDay}, {lastDay - 1, lastDay}, {lastDay - 4}, daysFrom(lastDay-399, 1, 400)} {
		for back := range 30 {
			for days := range 25 {
				askDeadline(t, lastDay-back, days, off)
			}
		}
		for _, days := range dayCounts {
			for back := range 600 {
				askDeadline(t, lastDay-back, days, off)
			}
		}
	}
}

func TestDeadlineWithoutAHolidayList(t *testing.T) {
	for i, off := range badOffLists() {
		for _, day := range append(daysFrom(0, 1, 9), edgeDays...) {
			for _, days := range dayCounts {
				if got := impl.Deadline(day, days, off); got != -1 {
					t.Errorf("list %d: %s = %d, want -1", i, told("Deadline", day, days), got)
				}
			}
		}
	}
}

func TestLateNamed(t *testing.T) {
	cases := []struct {
		today, due int
		want       bool
	}{
		{9, 9, false},
		{10, 9, true},
		{8, 9, false},
		{9000, 9, true},
		{9, 9000, false},
		{0, 0, false},
		{1, 0, true},
		{0, 1, false},
		{1, 1, false},
		{2, 1, true},
		{lastDay, 0, true},
		{0, lastDay, false},
		{lastDay, lastDay, false},
		{lastDay - 1, lastDay, false},
		{lastDay, lastDay - 1, true},
		{lastDay + 1, lastDay, false},
		{lastDay + 1, lastDay - 1, false},
		{lastDay + 1, lastDay + 1, false},
		{lastDay + 2, lastDay + 1, false},
		{lastDay + 1, 0, false},
		{lastDay, lastDay + 1, false},
		{0, -1, false},
		{1, -1, false},
		{10, -1, false},
		{lastDay, -1, false},
		{lastDay + 1, -1, false},
		{-1, -1, false},
		{-1, -2, false},
		{-1, 0, false},
		{0, -2, false},
		{greatestInt, 0, false},
		{0, leastOfInt, false},
		{greatestInt, leastOfInt, false},
		{leastOfInt, greatestInt, false},
	}
	for _, c := range cases {
		if got := impl.Late(c.today, c.due); got != c.want {
			t.Errorf("Late(%d, %d) = %v, want %v", c.today, c.due, got, c.want)
		}
	}
}

func TestLate(t *testing.T) {
	near := slices.Concat(edgeDays, daysFrom(-20, 1, 60), daysFrom(lastDay-20, 1, 60))
	for _, today := range near {
		for _, due := range near {
			askLate(t, today, due)
		}
	}
}

func TestWhatIsDueIsLateOnTheNextDay(t *testing.T) {
	for due := 0; due <= lastDay; due++ {
		if impl.Late(due, due) {
			t.Fatalf("late on day %d, on which it is due", due)
		}
		if due > 0 && impl.Late(due-1, due) {
			t.Fatalf("late ahead of day %d, on which it is due", due)
		}
		// Behind the last day there is none on which it could be late.
		if got := impl.Late(due+1, due); got != (due < lastDay) {
			t.Fatalf("Late(%d, %d) = %v", due+1, due, got)
		}
		if impl.Late(due, -1) {
			t.Fatalf("late on day %d, and nothing is due", due)
		}
	}
}

// askDue holds one deadline against the promise.
func askDue(t *testing.T, day, days int, off []int) {
	t.Helper()
	due := impl.Deadline(day, days, off)
	if due == -1 {
		if impl.Late(day, due) || impl.Late(lastDay, due) {
			t.Errorf("%s is none, and it is late", told("Deadline", day, days))
		}
		return
	}
	if due < day || days == 0 && due != day || days > 0 && due == day {
		t.Errorf("%s with %d days off = %d", told("Deadline", day, days), len(off), due)
	}
	for today := day; today <= due; today++ {
		if impl.Late(today, due) {
			t.Errorf("late on day %d, due on %d", today, due)
		}
	}
	if due < lastDay && !impl.Late(due+1, due) {
		t.Errorf("not late on day %d, due on %d", due+1, due)
	}
	if got := impl.WorkBetween(day, due, off); got != days {
		t.Errorf("%s with %d days off = %d, which is %d working days on", told("Deadline", day, days), len(off), due, got)
	}
}

func TestDeadlinesOfReasonsAndSteps(t *testing.T) {
	starts := slices.Concat(daysFrom(0, 1, 40), daysFrom(9000, 1, 10), daysFrom(lastDay-130, 1, 131))
	for _, off := range goodOffLists() {
		for _, day := range starts {
			for _, row := range reasonRows {
				askDue(t, day, impl.ReasonDays(row.code), off)
			}
			for step := impl.StepAnswer; step <= impl.StepCopy; step++ {
				askDue(t, day, impl.StepDays(step), off)
			}
			askDue(t, day, 0, off)
			askDue(t, day, 1, off)
			// Where there is no reason and no step, there is no deadline.
			if got := impl.Deadline(day, impl.ReasonDays(0), off); got != -1 {
				t.Errorf("a deadline of no reason: %d", got)
			}
			if got := impl.Deadline(day, impl.StepDays(5), off); got != -1 {
				t.Errorf("a deadline of no step: %d", got)
			}
		}
	}
}

func TestDeadlineIsNeverAheadOfItsDay(t *testing.T) {
	for day := 0; day <= lastDay; day++ {
		if got := impl.Deadline(day, 0, nil); got != day {
			t.Fatalf("Deadline(%d, 0, nil) = %d", day, got)
		}
		due := impl.Deadline(day, 1, nil)
		if day < lastDay && (due <= day || due > day+3) || day == lastDay && due != -1 {
			t.Fatalf("Deadline(%d, 1, nil) = %d", day, due)
		}
	}
}

func TestDeadlineDoesNotWriteIntoItsList(t *testing.T) {
	for _, list := range append(goodOffLists(), badOffLists()...) {
		room := append(slices.Clone(list), 3, -7, 70000, 2, 0, lastDay, greatestInt)
		kept := slices.Clone(room)
		for _, day := range []int{-1, 0, 2, 7, 9000, lastDay - 40, lastDay, lastDay + 1} {
			for _, days := range dayCounts {
				impl.Deadline(day, days, room[:len(list)])
			}
		}
		if !slices.Equal(room, kept) {
			t.Errorf("a list of %d days, or the room behind it, was written into", len(list))
		}
	}
}

// What stands behind the end of a list is no part of it.
func TestDeadlineDoesNotReadBehindItsList(t *testing.T) {
	room := []int{9, 10, 11, 3}
	if got := impl.Deadline(2, 5, room[:0]); got != 9 {
		t.Error("without a day off it is due on", got)
	}
	if got := impl.Deadline(2, 5, room[:1]); got != 10 {
		t.Error("with one day off it is due on", got)
	}
	if got := impl.Deadline(2, 5, room[:3]); got != 12 {
		t.Error("with three days off it is due on", got)
	}
}

func TestDeadlineDoesNotKeepItsList(t *testing.T) {
	off := []int{9}
	if got := impl.Deadline(2, 5, off); got != 10 {
		t.Error("with day 9 off it is due on", got)
	}
	off[0] = 10
	if got := impl.Deadline(2, 5, off); got != 9 {
		t.Error("with day 10 off it is due on", got)
	}
	if got := impl.Deadline(2, 5, nil); got != 9 {
		t.Error("without a day off it is due on", got)
	}
}

// reasonAnswers are the answers of every function, in one order.
func reasonAnswers() []string {
	var list []string
	for _, code := range append(daysFrom(4825, 1, 35), edgeInts...) {
		list = append(list, impl.ReasonText(code), strconv.Itoa(impl.ReasonDays(code)),
			strconv.FormatBool(impl.ReasonOk(code)), strconv.FormatBool(impl.ReasonPart(code)), strconv.FormatBool(impl.ReasonProof(code)))
	}
	for _, s := range []string{"fraud", "none", "twice", "amount", "quality", "cancelled", "", "x", "Fraud", "none "} {
		list = append(list, strconv.Itoa(impl.ReadReason(s)))
	}
	for step := -2; step <= 6; step++ {
		list = append(list, strconv.Itoa(impl.StepDays(step)))
	}
	for _, day := range []int{-1, 0, 1, 2, 9000, lastDay - 40, lastDay, lastDay + 1} {
		for _, days := range []int{-1, 0, 1, 30, mostWork, mostWork + 1} {
			list = append(list, strconv.Itoa(impl.Deadline(day, days, []int{9, 10, 9001})))
		}
		list = append(list, strconv.FormatBool(impl.Late(day, 1)), strconv.FormatBool(impl.Late(1, day)))
	}
	return list
}

func TestReasonsAnswerTheSame(t *testing.T) {
	first := reasonAnswers()
	for range 50 {
		if !slices.Equal(reasonAnswers(), first) {
			t.Fatal("asked again, another answer is given")
		}
	}
}

func TestReasonsAnswerTheSameSideBySide(t *testing.T) {
	first := reasonAnswers()
	same := make([]bool, 16)
	var all sync.WaitGroup
	for i := range same {
		all.Go(func() { same[i] = slices.Equal(reasonAnswers(), first) })
	}
	all.Wait()
	if slices.Contains(same, false) {
		t.Error("asked side by side, another answer is given")
	}
}

// A firstCall is a call that must be right where no other has come ahead of it.
type firstCall struct {
	name  string
	right func() bool
}

var firstReasonCalls = []firstCall{
	{"ReasonOk", func() bool { return impl.ReasonOk(4837) }},
	{"ReasonDays", func() bool { return impl.ReasonDays(4837) == 85 }},
	{"ReasonPart", func() bool { return impl.ReasonPart(4853) }},
	{"ReasonProof", func() bool { return impl.ReasonProof(4834) }},
	{"ReasonText", func() bool { return impl.ReasonText(4841) == "cancelled" }},
	{"ReadReason", func() bool { return impl.ReadReason("none") == 4855 }},
	{"StepDays", func() bool { return impl.StepDays(4) == 20 }},
	{"Deadline", func() bool { return impl.Deadline(0, 6, nil) == 9 }},
	{"Late", func() bool { return impl.Late(10, 9) && !impl.Late(9, 9) }},
	{"SideBySide", rightSideBySide},
}

// rightSideBySide lets many begin at once, so that whoever comes second finds the reasons while they are being filled.
func rightSideBySide() bool {
	right := make([]bool, 64)
	begin := make(chan struct{})
	var all sync.WaitGroup
	for i := range right {
		row := reasonRows[i%len(reasonRows)]
		all.Go(func() {
			<-begin
			right[i] = impl.ReasonText(row.code) == row.text && impl.ReadReason(row.text) == row.code && impl.ReasonDays(row.code) == row.days
		})
	}
	close(begin)
	all.Wait()
	return !slices.Contains(right, false)
}

const firstCallName = "FIRST_CALL"

// askFirstCalls asks each call in a process of its own, the only place where it is surely the first one.
func askFirstCalls(t *testing.T, calls []firstCall) {
	t.Helper()
	asked := os.Getenv(firstCallName)
	for _, call := range calls {
		if asked == call.name && !call.right() {
			t.Fatalf("%s is wrong as the first call", call.name)
		}
	}
	if asked != "" {
		return
	}
	self, err := os.Executable()
	if err != nil {
		t.Fatal(err)
	}
	for _, call := range calls {
		child := exec.Command(self, "-test.run=^"+t.Name()+"$")
		child.Env = append(os.Environ(), firstCallName+"="+call.name)
		if out, err := child.CombinedOutput(); err != nil {
			t.Errorf("%s: %v\n%s", call.name, err, out)
		}
	}
}

func TestReasonsAtTheFirstCall(t *testing.T) {
	askFirstCalls(t, firstReasonCalls)
}
