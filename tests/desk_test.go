package tests

import (
	"fmt"
	"regexp"
	"slices"
	"strconv"
	"strings"
	"sync"
	"testing"

	"loop.example/g00126/impl"
)

const (
	mostScript = 30000
	mostTyped  = 300
	deskStart  = 9000
)

var (
	caseForm  = regexp.MustCompile(`\Acase` + numForm + `\z`)
	dateForm  = regexp.MustCompile(`\Adate` + numForm + `\z`)
	moneyForm = regexp.MustCompile(`\Amoney` + strings.Repeat(numForm, 5) + `\z`)
)

func wantNumbers(nums []int) string {
	return strings.Trim(fmt.Sprint(nums), "[]")
}

func wantBack(b impl.Book) string {
	again, _ := wantBookAll(deskStart, nil, wholeLines(wantBookText(b)))
	if wantReport(again) == wantReport(b) {
		return "same"
	}
	return "other"
}

// wantAskedWith is what is told of a word with numbers behind it; false where the line is none of these.
func wantAskedWith(b impl.Book, line string) (string, bool) {
	if words := caseForm.FindStringSubmatch(line); words != nil {
		if n := numsOf(words)[0]; n < len(b.Cases) {
			return wantCaseText(b.Cases[n]), true
		}
		return "none", true
	}
	if words := dateForm.FindStringSubmatch(line); words != nil {
		if day := numsOf(words)[0]; isDay(day) {
			return wantDate(day), true
		}
		return "none", true
	}
	if words := moneyForm.FindStringSubmatch(line); words != nil {
		x := numsOf(words)
		if converted := convertWanted(x[0], x[1], x[2], x[3], x[4]); converted != nil {
			return converted.String(), true
		}
		return "none", true
	}
	return "", false
}

func wantAsked(b impl.Book, line string) (string, bool) {
	switch line {
	case "books":
		return wantLedgerText(b.Ledger), true
	case "due":
		if due := wantDueList(b); len(due) > 0 {
			return wantNumbers(due), true
		}
		return "-", true
	case "counts":
		counts := wantCounts(b)
		return wantNumbers(counts[:]), true
	case "back":
		return wantBack(b), true
	}
	return wantAskedWith(b, line)
}

// wantDeskLine is the second reckoning: the lines are read by their forms, and nothing of the program is asked.
func wantDeskLine(b impl.Book, line string) (impl.Book, string) {
	if told, asked := wantAsked(b, line); asked {
		return b, told
	}
	if line == "run" {
		next, done := wantExpire(b)
		return next, fmt.Sprintf("done %d", done)
	}
	next, code := wantBookDo(b, line)
	return next, fmt.Sprintf("code %d", code)
}

func isScript(text string) bool {
	if len(text) > 0 && text[len(text)-1] != 10 {
		return false
	}
	return len(text) <= mostScript && len(wholeLines(text)) <= mostTyped
}

func wantDesk(text string) string {
	if !isScript(text) {
		return "long\n"
	}
	b := impl.Book{Today: deskStart}
	all := ""
	for _, line := range wholeLines(text) {
		next, told := wantDeskLine(b, line)
		b = next
		all += told + "\n"
	}
	return all
}

func scriptOf(lines ...string) string {
	text := ""
	for _, line := range lines {
		text += line + "\n"
	}
	return text
}

// askDeskLine holds a line against the second reckoning, and its book against the one that the book's own function answers.
func askDeskLine(t *testing.T, b impl.Book, line string) (impl.Book, string) {
	t.Helper()
	got, told := impl.DeskLine(b, line)
	want, wantTold := wantDeskLine(b, line)
	if told != wantTold || !sameBook(got, want) {
		t.Errorf("%.200q at the desk of %s:\n%.200q, %s, want\n%.200q, %s", line, shortBook(b), told, shortBook(got), wantTold, shortBook(want))
	}
	askBookOfTheDesk(t, b, line, got, told)
	return got, told
}

// askBookOfTheDesk wants the book as it was for a line that asks, the one of BookExpire for run, and the one of BookDo for any other line.
func askBookOfTheDesk(t *testing.T, b impl.Book, line string, got impl.Book, told string) {
	t.Helper()
	want, wantTold := b, told
	if _, asked := wantAsked(b, line); line == "run" {
		next, done := impl.BookExpire(b)
		want, wantTold = next, "done "+strconv.Itoa(done)
	} else if !asked {
		next, code := impl.BookDo(b, line)
		want, wantTold = next, "code "+strconv.Itoa(code)
	}
	if told != wantTold || !sameBook(got, want) {
		t.Errorf("%.200q at the desk of %s:\n%q, %s, want\n%q, %s", line, shortBook(b), told, shortBook(got), wantTold, shortBook(want))
	}
}

func askDesk(t *testing.T, text string) string {
	t.Helper()
	got := impl.Desk(text)
	if want := wantDesk(text); got != want {
		t.Errorf("Desk of %.300q (%d bytes) is\n%.400q, want\n%.400q", text, len(text), got, want)
	}
	return got
}

// askLineByLine wants of a script what DeskLine answers to its lines, each on the book that those ahead of it led to, and answers the book at its end.
func askLineByLine(t *testing.T, text string) impl.Book {
	t.Helper()
	b, ok := impl.BookStart(deskStart, nil)
	if !ok {
		t.Fatal("there is no start")
	}
	all := ""
	for _, line := range wholeLines(text) {
		next, told := askDeskLine(t, b, line)
		if again, _ := impl.BookRead(deskStart, nil, impl.BookText(next)); !sameBook(again, next) {
			t.Errorf("behind %q the book is %s, and read again %s", line, shortBook(next), shortBook(again))
		}
		b = next
		all += told + "\n"
	}
	if got := impl.Desk(text); got != all {
		t.Errorf("Desk of %.300q is\n%.400q, line by line it is\n%.400q", text, got, all)
	}
	return b
}

// askBeginnings wants that what is told of a script begins with what is told of its beginning, cut off behind any line.
func askBeginnings(t *testing.T, text string) {
	t.Helper()
	all := impl.Desk(text)
	if strings.Count(all, "\n") != strings.Count(text, "\n") {
		t.Errorf("of %d lines %d are told", strings.Count(text, "\n"), strings.Count(all, "\n"))
	}
	cut := 0
	for n, line := range wholeLines(text) {
		told := impl.Desk(text[:cut])
		if !strings.HasPrefix(all, told) || strings.Count(told, "\n") != n {
			t.Fatalf("of the first %d lines is told %.300q, of all %.300q", n, told, all)
		}
		cut += len(line) + 1
	}
}

// askBackAnywhere wants that the book is the same wherever it is read again, and that this changes nothing that is told of the other lines.
func askBackAnywhere(t *testing.T, text string) {
	t.Helper()
	lines, told := wholeLines(text), wholeLines(impl.Desk(text))
	for at := range len(lines) + 1 {
		with := slices.Insert(slices.Clone(lines), at, "back")
		want := slices.Insert(slices.Clone(told), at, "same")
		if got := wholeLines(impl.Desk(scriptOf(with...))); !slices.Equal(got, want) {
			t.Fatalf("with back behind line %d of %.300q is told %.300q, want %.300q", at, text, got, want)
		}
	}
}

func askScript(t *testing.T, text string) {
	t.Helper()
	askDesk(t, text)
	askLineByLine(t, text)
	askBeginnings(t, text)
	if len(wholeLines(text)) < mostTyped {
		askBackAnywhere(t, text)
	}
}

// A talk is what is typed and what is told of it.
type talk []struct{ line, told string }

func (x talk) text() string {
	text := ""
	for _, said := range x {
		text += said.line + "\n"
	}
	return text
}

func (x talk) told() string {
	text := ""
	for _, said := range x {
		text += said.told + "\n"
	}
	return text
}

// The days of this talk are counted by hand: 9000 is a Thursday, 2024-08-22.
var oneCaseTalk = talk{
	{"books", "-"},
	{"due", "-"},
	{"counts", "0 0 0 0 0 0 0 0"},
	{"case 0", "none"},
	{"run", "done 0"},
	{"back", "same"},
	{"date 9000", "2024-08-22"},
	{"auth 000000000001 1 840 500", "code 0"},
	{"auth 000000000001 1 840 5", "code 3"},
	{"back", "same"},
	{"counts", "0 0 0 0 0 0 0 0"},
	{"pay 2 4 840 494", "code 3"},
	{"pay 1 9999 840 500", "code 5"},
	{"pay 1 4 840 500", "code 0"},
	{"case 0", "open 1 4 840 5.00 0.00 0.00 -"},
	{"case 1", "none"},
	{"books", "1 840 -5.00;4 840 5.00"},
	{"counts", "1 0 0 0 0 0 0 0"},
	{"act 1 ask 0 0", "code 5"},
	{"act 0 give 0 0", "code 11"},
	{"act 0 charge 501 4855", "code 12"},
	{"act 0 charge 500 4837", "code 13"},
	{"act 0 ask 0 0", "code 0"},
	{"case 0", "asked 1 4 840 5.00 0.00 0.00 2024-09-19"},
	{"counts", "0 1 0 0 0 0 0 0"},
	{"act 0 expire 0 0", "code 14"},
	{"day 9000", "code 4"},
	{"day 9028", "code 0"},
	{"due", "-"},
	{"run", "done 0"},
	{"day 9029", "code 0"},
	{"due", "0"},
	{"back", "same"},
	{"run", "done 1"},
	{"due", "-"},
	{"run", "done 0"},
	{"back", "same"},
	{"case 0", "given 1 4 840 5.00 0.00 0.00 -"},
	{"counts", "0 0 1 0 0 0 0 0"},
	{"act 0 charge 500 4837", "code 0"},
	{"case 0", "charged 1 4 840 5.00 5.00 5.00 2024-11-01"},
	{"books", "-"},
	{"counts", "0 0 0 1 0 0 0 0"},
	{"act 0 answer 400 0", "code 0"},
	{"case 0", "answered 1 4 840 5.00 4.00 1.00 2024-11-01"},
	{"books", "1 840 -4.00;4 840 4.00"},
	{"counts", "0 0 0 0 1 0 0 0"},
	{"act 0 second 300 0", "code 0"},
	{"case 0", "second 1 4 840 5.00 3.00 1.00 2024-10-11"},
	{"counts", "0 0 0 0 0 1 0 0"},
	{"act 0 refuse 0 0", "code 0"},
	{"case 0", "ruling 1 4 840 5.00 3.00 1.00 2024-12-13"},
	{"counts", "0 0 0 0 0 0 1 0"},
	{"day 9113", "code 0"},
	{"due", "-"},
	{"run", "done 0"},
	{"day 9114", "code 0"},
	{"due", "0"},
	{"run", "done 1"},
	{"books", "1 840 -2.50;4 840 -497.50;9999 840 500.00"},
	{"case 0", "closed 1 4 840 5.00 0.00 2.50 -"},
	{"counts", "0 0 0 0 0 0 0 1"},
	{"due", "-"},
	{"act 0 close 0 0", "code 11"},
	{"back", "same"},
}

// askingTalk is typed at a book that is never changed.
var askingTalk = talk{
	{"money 100 840 392 150 1", "150"},
	{"money 150 392 840 1 150", "100"},
	{"money 0 840 392 1 1", "0"},
	{"money 50 840 392 1 1", "0"},
	{"money 150 840 392 1 1", "2"},
	{"money 250 840 392 1 1", "2"},
	{"money 7 392 414 1 1", "7000"},
	{"money 1234 840 978 1 2", "617"},
	{"money 1000000000000 840 840 1 1", "1000000000000"},
	{"money 1000000000001 840 840 1 1", "none"},
	{"money 1000000000000 840 840 2 1", "none"},
	{"money 999999999999999 840 840 1 1", "none"},
	{"money 100 1 392 150 1", "none"},
	{"money 100 840 1 150 1", "none"},
	{"money 100 840 392 0 1", "none"},
	{"money 100 840 392 150 0", "none"},
	{"money 1 392 392 1000000 1000000", "1"},
	{"money 1 392 392 1000001 1", "none"},
	{"money 1 392 392 1 1000001", "none"},
	{"money 1 840 840 10000 10000", "1"},
	{"money 1 840 840 10001 1", "none"},
	{"money 1 840 840 1 10001", "none"},
	{"money 0 0 0 0 0", "none"},
	{"money -1 840 392 150 1", "code 1"},
	{"money 1.00 840 392 150 1", "code 1"},
	{"money 100 840 392 150", "code 1"},
	{"money 100 840 392 150 1 1", "code 1"},
	{"money 100 840 392 150 01", "code 1"},
	{"money", "code 1"},
	{"date 0", "2000-01-01"},
	{"date 1", "2000-01-02"},
	{"date 59", "2000-02-29"},
	{"date 80000", "2219-01-13"},
	{"date 80001", "none"},
	{"date 999999999999999", "none"},
	{"date 1000000000000000", "code 1"},
	{"date 059", "code 1"},
	{"date -1", "code 1"},
	{"date", "code 1"},
	{"date 2000-02-29", "code 1"},
	{"case 0", "none"},
	{"case 5", "none"},
	{"case 999999999999999", "none"},
	{"case 1000000000000000", "code 1"},
	{"case 00", "code 1"},
	{"case -1", "code 1"},
	{"case x", "code 1"},
	{"case", "code 1"},
	{"case ", "code 1"},
	{"case 0 0", "code 1"},
	{"books", "-"},
	{"books 0", "code 1"},
	{"books ", "code 1"},
	{" books", "code 1"},
	{"Books", "code 1"},
	{"book", "code 1"},
	{"due", "-"},
	{"due 0", "code 1"},
	{"DUE", "code 1"},
	{"counts", "0 0 0 0 0 0 0 0"},
	{"count", "code 1"},
	{"counts 0", "code 1"},
	{"run", "done 0"},
	{"run 0", "code 1"},
	{"run ", "code 1"},
	{"runs", "code 1"},
	{"back", "same"},
	{"back 9000", "code 1"},
	{"bäck", "code 1"},
	{"", "code 1"},
	{" ", "code 1"},
	{"what", "code 1"},
	{"0", "code 1"},
	{"report", "code 1"},
	{"expire", "code 1"},
	{"long", "code 1"},
	{"none", "code 1"},
	{"-", "code 1"},
	{"code 0", "code 1"},
	{"day", "code 1"},
	{"auth", "code 1"},
	{"pay", "code 1"},
	{"act", "code 1"},
	{"act 0 case 0 0", "code 1"},
	{"day 9000", "code 4"},
	{"day 0", "code 4"},
	{"day 80001", "code 4"},
	{"auth a 1 840 500", "code 3"},
	{"auth 000000000001 1 841 500", "code 3"},
	{"pay 1 4 840 500", "code 3"},
	{"act 0 ask 0 0", "code 5"},
	{"back", "same"},
}

// dueTalk has cases in every state, some of which run out at once. On which days they are due is counted by hand where the book is tested.
var dueTalk = talk{
	{"auth 000000000000 1 840 1000", "code 0"}, {"pay 1 20 840 1000", "code 0"},
	{"auth 000000000001 2 840 1001", "code 0"}, {"pay 2 21 840 1001", "code 0"},
	{"auth 000000000002 3 840 1002", "code 0"}, {"pay 3 22 840 1002", "code 0"},
	{"auth 000000000003 4 840 1003", "code 0"}, {"pay 4 23 840 1003", "code 0"},
	{"auth 000000000004 5 840 1004", "code 0"}, {"pay 5 24 840 1004", "code 0"},
	{"auth 000000000005 6 840 1005", "code 0"}, {"pay 6 25 840 1005", "code 0"},
	{"auth 000000000006 7 840 1006", "code 0"}, {"pay 7 26 840 1006", "code 0"},
	{"auth 000000000007 8 840 1007", "code 0"}, {"pay 8 27 840 1007", "code 0"},
	{"auth 000000000008 9 840 1008", "code 0"}, {"pay 9 28 840 1008", "code 0"},
	{"counts", "9 0 0 0 0 0 0 0"},
	{"act 1 ask 0 0", "code 0"},
	{"act 2 charge 1002 4855", "code 0"},
	{"act 3 charge 1003 4855", "code 0"}, {"act 3 answer 1000 0", "code 0"},
	{"act 4 charge 1004 4855", "code 0"}, {"act 4 answer 1004 0", "code 0"}, {"act 4 second 900 0", "code 0"},
	{"act 5 charge 1005 4855", "code 0"}, {"act 5 answer 1005 0", "code 0"}, {"act 5 second 901 0", "code 0"}, {"act 5 refuse 0 0", "code 0"},
	{"act 6 close 0 0", "code 0"},
	{"act 7 ask 0 0", "code 0"}, {"act 7 give 0 0", "code 0"},
	{"act 8 charge 1008 4855", "code 0"}, {"act 8 answer 1008 0", "code 0"}, {"act 8 second 1008 0", "code 0"}, {"act 8 accept 0 0", "code 0"},
	{"counts", "1 1 1 1 1 1 1 2"},
	{"due", "-"},
	{"day 9021", "code 0"}, {"due", "-"},
	{"day 9022", "code 0"}, {"due", "4"},
	{"day 9028", "code 0"}, {"due", "4"},
	{"day 9029", "code 0"}, {"due", "1 4"},
	{"day 9042", "code 0"}, {"due", "1 4"},
	{"day 9043", "code 0"}, {"due", "1 2 3 4"},
	{"act 3 expire 0 0", "code 0"}, {"due", "1 2 4"},
	{"day 9084", "code 0"}, {"due", "1 2 4"},
	{"day 9085", "code 0"}, {"due", "1 2 4 5"},
	{"counts", "1 1 1 1 0 1 1 3"},
	{"back", "same"},
	{"run", "done 4"},
	{"due", "-"},
	{"run", "done 0"},
	{"counts", "1 0 2 0 0 0 0 6"},
	{"case 5", "closed 6 25 840 10.05 0.00 4.50 -"},
	{"books", "1 840 -10.00;2 840 -10.01;4 840 -10.00;5 840 -1.04;6 840 -505.55;7 840 -10.06;8 840 -10.07;20 840 10.00;21 840 10.01;23 840 10.00;24 840 1.04;25 840 5.55;26 840 10.06;27 840 10.07;9999 840 500.00"},
	{"back", "same"},
}

// moneyTalk is about accounts that come to the end of what they can hold.
func moneyTalk() talk {
	var list talk
	say := func(line, told string) { list = append(list, struct{ line, told string }{line, told}) }
	for n := range 11 {
		say(authLine(n, 1, 840, mostPaid), "code 0")
	}
	for range 10 {
		say(payLine(1, 4, 840, mostPaid), "code 0")
	}
	say("books", "1 840 -10000000000.00;4 840 10000000000.00")
	say(payLine(1, 4, 840, mostPaid), "code 6")
	say(payLine(1, 5, 840, 1), "code 6")
	say("books", "1 840 -10000000000.00;4 840 10000000000.00")
	say("counts", "10 0 0 0 0 0 0 0")
	say("case 9", "open 1 4 840 1000000000.00 0.00 0.00 -")
	say("case 10", "none")
	say("act 9 charge 100000000000 4855", "code 0")
	say("books", "1 840 -9000000000.00;4 840 9000000000.00")
	say(payLine(1, 5, 840, 1), "code 0")
	say("books", "1 840 -9000000000.01;4 840 9000000000.00;5 840 0.01")
	say("case 10", "open 1 5 840 0.01 0.00 0.00 -")
	say("back", "same")
	return list
}

func talks() []talk { return []talk{{}, oneCaseTalk, askingTalk, dueTalk, moneyTalk()} }

func TestNumbersOfTheDesk(t *testing.T) {
	if impl.MaxScript != mostScript {
		t.Error("MaxScript is", impl.MaxScript)
	}
}

func TestTalksByHand(t *testing.T) {
	for _, x := range talks() {
		if got := impl.Desk(x.text()); got != x.told() {
			t.Errorf("of %.200q is told\n%s, want\n%s", x.text(), got, x.told())
		}
		b, _ := impl.BookStart(9000, nil)
		for _, said := range x {
			next, told := askDeskLine(t, b, said.line)
			if told != said.told {
				t.Errorf("of %q is told %q, want %q", said.line, told, said.told)
			}
			b = next
		}
		askScript(t, x.text())
	}
}

// Each word that the chapter names, and each code of the book that a script can lead to, stands in a talk.
func TestTalksAreAboutAllThings(t *testing.T) {
	words, codes := map[string]int{}, map[string]int{}
	for _, x := range talks() {
		for _, said := range x {
			words[strings.Split(said.line, " ")[0]]++
			if strings.HasPrefix(said.told, "code ") {
				codes[said.told]++
			}
		}
	}
	for _, word := range []string{"case", "books", "due", "counts", "run", "money", "date", "back", "day", "auth", "pay", "act", ""} {
		if words[word] == 0 {
			t.Errorf("no talk has a line of %q", word)
		}
	}
	for _, code := range []int{0, 1, 3, 4, 5, 6, 11, 12, 13, 14} {
		if codes[fmt.Sprintf("code %d", code)] == 0 {
			t.Errorf("no talk leads to code %d", code)
		}
	}
}

// The codes that no script leads to are answered on books that DeskLine is handed.
func TestCodesBeyondAScript(t *testing.T) {
	open := anyCase(0, 0, 0, -1)
	for _, x := range []struct {
		what string
		b    impl.Book
		line string
		told string
	}{
		{"a full log", impl.Book{Today: 9000, Log: dayLog(mostLog)}, "day 9001", "code 2"},
		{"a full log and no line", impl.Book{Today: 9000, Log: dayLog(mostLog)}, "what", "code 2"},
		{"a full log and an empty line", impl.Book{Today: 9000, Log: dayLog(mostLog)}, "", "code 2"},
		{"a full log and a word with too much", impl.Book{Today: 9000, Log: dayLog(mostLog)}, "books 0", "code 2"},
		{"a full log and a word with too little", impl.Book{Today: 9000, Log: dayLog(mostLog)}, "case", "code 2"},
		{"a full log and no number", impl.Book{Today: 9000, Log: dayLog(mostLog)}, "case x", "code 2"},
		{"more than a full log", impl.Book{Today: 9000, Log: dayLog(mostLog + 1)}, "day 9001", "code 2"},
		{"nearly a full log", impl.Book{Today: 9000, Log: dayLog(mostLog - 1)}, "day 9001", "code 0"},
		{"nearly a full log and no line", impl.Book{Today: 9000, Log: dayLog(mostLog - 1)}, "what", "code 1"},
		{"full of cases", impl.Book{Today: 9000, Auths: authsOf(1000), Cases: closedCases(mostCases)}, "pay 1 4 840 1000", "code 2"},
		{"nearly full of cases", impl.Book{Today: 9000, Auths: authsOf(1000), Cases: closedCases(mostCases - 1)}, "pay 1 4 840 1000", "code 0"},
		{"ahead of a case's start", impl.Book{Today: 1, Cases: []impl.Case{open}}, "act 0 ask 0 0", "code 15"},
		{"no holiday list", impl.Book{Today: 9000, Off: []int{5, 5}, Cases: []impl.Case{open}}, "act 0 ask 0 0", "code 15"},
		{"what is no case", impl.Book{Today: 9000, Cases: []impl.Case{{}}}, "act 0 ask 0 0", "code 15"},
		{"an uneven ledger", impl.Book{Today: 9000, Auths: authsOf(1000), Ledger: ledger(line(1, 840, 5))}, "pay 1 4 840 1000", "code 6"},
	} {
		if _, told := askDeskLine(t, x.b, x.line); told != x.told {
			t.Errorf("%s: of %q is told %q, want %q", x.what, x.line, told, x.told)
		}
	}
}

// A log that is full keeps nothing from being asked.
func TestFullLogAtTheDesk(t *testing.T) {
	j := dueBook(t)
	for len(j.book.Log) < mostLog {
		j.must(t, dayLine(max(j.book.Today+1, 9085)))
	}
	b := j.book
	for line, want := range map[string]string{
		"due": "1 2 3 4 5", "run": "done 0", "counts": "1 1 1 1 1 1 1 2", "case 0": "open 1 20 840 10.00 0.00 0.00 -", "case 9": "none", "date 0": "2000-01-01",
		"money 1 392 392 2 1": "2", "back": "same", "act 1 expire 0 0": "code 2", "day 80000": "code 2", "x": "code 2",
	} {
		if got, told := askDeskLine(t, b, line); told != want || !sameBook(got, b) {
			t.Errorf("of %q is told %q, want %q; the book is %s", line, told, want, shortBook(got))
		}
	}
	// With room for a few lines, the first ones run out alone.
	for room := range 7 {
		less := cloneBook(b)
		less.Log = less.Log[room:]
		if got, told := askDeskLine(t, less, "run"); told != fmt.Sprintf("done %d", min(room, 5)) || len(got.Log) != mostLog-room+min(room, 5) {
			t.Errorf("with room for %d lines is told %q", room, told)
		}
	}
}

func TestScriptsAtTheirLimits(t *testing.T) {
	x := func(n int) string { return strings.Repeat("x", n) }
	for _, c := range []struct {
		what, text, want string
	}{
		{"the empty script", "", ""},
		{"an empty line", "\n", "code 1\n"},
		{"two empty lines", "\n\n", "code 1\ncode 1\n"},
		{"one line", "due\n", "-\n"},
		{"no newline", "due", "long\n"},
		{"no newline behind the last line", "due\nbooks", "long\n"},
		{"one byte", "x", "long\n"},
		{"a blank", " ", "long\n"},
		{"a blank behind the last newline", "due\n ", "long\n"},
		{"another newline", "due\r", "long\n"},
		{"two bytes as a newline", "due\r\n", "code 1\n"},
		{"a nought byte behind the last newline", "due\n\x00", "long\n"},
		{"a nought byte", "\x00\n", "code 1\n"},
		{"the next line of another code", "due\u0085", "long\n"},
		{"all bytes in one line", x(mostScript-1) + "\n", "code 1\n"},
		{"one byte less in one line", x(mostScript-2) + "\n", "code 1\n"},
		{"one byte more in one line", x(mostScript) + "\n", "long\n"},
		{"all bytes without a newline", x(mostScript), "long\n"},
		{"one byte more without a newline", x(mostScript + 1), "long\n"},
		{"all bytes in two lines", x(mostScript-5) + "\ndue\n", "code 1\n-\n"},
		{"one byte more in two lines", x(mostScript-4) + "\ndue\n", "long\n"},
		{"all lines, empty", strings.Repeat("\n", mostTyped), strings.Repeat("code 1\n", mostTyped)},
		{"one line less, empty", strings.Repeat("\n", mostTyped-1), strings.Repeat("code 1\n", mostTyped-1)},
		{"one line more, empty", strings.Repeat("\n", mostTyped+1), "long\n"},
		{"all lines", strings.Repeat("due\n", mostTyped), strings.Repeat("-\n", mostTyped)},
		{"one line more", strings.Repeat("due\n", mostTyped+1), "long\n"},
		{"all lines and no newline behind one more", strings.Repeat("due\n", mostTyped) + "due", "long\n"},
		{"all lines but one and no newline behind the last", strings.Repeat("due\n", mostTyped-1) + "due", "long\n"},
		{"all lines and all bytes", strings.Repeat(x(mostScript/mostTyped-1)+"\n", mostTyped), strings.Repeat("code 1\n", mostTyped)},
		{"all lines and one byte more", "x" + strings.Repeat(x(mostScript/mostTyped-1)+"\n", mostTyped), "long\n"},
		{"all bytes and one line more", "\n" + strings.Repeat(x(mostScript/mostTyped-1)+"\n", mostTyped)[1:], "long\n"},
		{"as many lines as bytes", strings.Repeat("\n", mostScript), "long\n"},
		{"far too many bytes", x(1<<20) + "\n", "long\n"},
		{"far too many lines", strings.Repeat("day 9001\n", 1<<17), "long\n"},
	} {
		if got := askDesk(t, c.text); got != c.want {
			t.Errorf("%s: %.60q, want %.60q", c.what, got, c.want)
		}
	}
	for size := mostScript - 20; size <= mostScript+20; size++ {
		for _, lines := range []int{1, 2, 7, 100, mostTyped - 1, mostTyped, mostTyped + 1} {
			askDesk(t, strings.Repeat("\n", lines-1)+x(size-lines)+"\n")
			askDesk(t, x(size-lines)+strings.Repeat("\n", lines))
		}
	}
	for lines := range mostTyped + 20 {
		askDesk(t, strings.Repeat("run\n", lines))
		askDesk(t, strings.Repeat("run\n", lines)+"run")
	}
}

// A script of all lines leads to a book with more lines than were typed, as all that ran out is written down.
func TestLongestScripts(t *testing.T) {
	var lines []string
	for n := range 70 {
		lines = append(lines, authLine(n, 1+n%9, 840, 1000+n), payLine(1+n%9, 20+n, 840, 1000+n), actLine(n, "ask", 0, 0))
	}
	lines = append(lines, "due", "day 9100", "due", "run", "counts")
	for n := range 70 {
		lines = append(lines, actLine(n, "charge", 1000+n, 4837))
	}
	lines = append(lines, "back", "day 9200", "due", "counts", "run", "counts", "due", "books", "back", "case 69", "case 70", "date 9200", "run", "act 0 close 0 0", "")
	text := scriptOf(lines...)
	if len(lines) != mostTyped {
		t.Fatal("there are", len(lines), "lines")
	}
	b := askLineByLine(t, text)
	if len(b.Log) != 70*3+1+70+70+1+70 || len(b.Cases) != 70 || statesOf(b) != strings.TrimSpace(strings.Repeat("closed ", 70)) {
		t.Errorf("the book is %s, its states are %s", shortBook(b), statesOf(b))
	}
	told := wholeLines(askDesk(t, text))
	for at, want := range map[int]string{
		210: "-", 212: wantNumbers(daysFrom(0, 1, 70)), 213: "done 70", 214: "0 0 70 0 0 0 0 0", 215: "code 0", 284: "code 0", 285: "same", 288: "0 0 0 70 0 0 0 0", 289: "done 70",
		290: "0 0 0 0 0 0 0 70", 291: "-", 292: "-", 293: "same", 294: "closed 7 89 840 10.69 0.00 10.69 -", 295: "none", 297: "done 0", 298: "code 11", 299: "code 1",
	} {
		if told[at] != want {
			t.Errorf("of line %d, %q, is told %q, want %q", at, lines[at], told[at], want)
		}
	}
	askBeginnings(t, text)
}

// Cut off within a line, what is left is no script.
func TestScriptsCutOffAnywhere(t *testing.T) {
	for _, x := range []talk{oneCaseTalk, askingTalk} {
		text := x.text()
		told := x.told()
		for cut := range len(text) + 1 {
			want := "long\n"
			if n := strings.Count(text[:cut], "\n"); cut == 0 || text[cut-1] == '\n' {
				want = scriptOf(wholeLines(told)[:n]...)
			}
			if got := impl.Desk(text[:cut]); got != want {
				t.Fatalf("cut off at byte %d is told %.200q, want %.200q", cut, got, want)
			}
		}
	}
}

// deskLines are the desk's own, each word with and without a thing to tell.
var deskLines = []string{
	"case 0", "case 1", "case 7", "case 999999999999999", "books", "due", "counts", "run", "back", "date 0", "date 59", "date 80000", "date 80001",
	"money 100 840 392 150 1", "money 0 392 48 1 1", "money 100 1 392 150 1", "money 1 840 392 0 0",
}

var deskWords = []string{"case", "books", "due", "counts", "run", "money", "date", "back"}

// isNoLine wants that a line is neither the desk's nor the book's.
func isNoLine(t *testing.T, b impl.Book, line string) {
	t.Helper()
	if got, told := askDeskLine(t, b, line); told != "code 1" || !sameBook(got, b) {
		t.Errorf("of %.200q is told %q, want code 1; the book is %s", line, told, shortBook(got))
	}
}

func deskBooks(t *testing.T) []impl.Book {
	t.Helper()
	j := dueBook(t)
	list := []impl.Book{{Today: 9000}, startBook(t).book, handBook(t).book, j.book}
	j.must(t, dayLine(9085))
	return append(list, j.book, reportBook(t).book)
}

func TestWordsOfTheDesk(t *testing.T) {
	for _, b := range deskBooks(t) {
		for _, line := range slices.Concat(deskLines, goodLines, oddLines) {
			askDeskLine(t, b, line)
		}
		for _, line := range deskLines {
			for _, bad := range badWords(line) {
				if bad != line {
					isNoLine(t, b, bad)
				}
			}
		}
		for _, line := range goodLines {
			for _, bad := range badWords(line) {
				isNoLine(t, b, bad)
			}
		}
	}
}

// numbersOfWords is how many numbers stand behind each word of the desk.
var numbersOfWords = map[string]int{"case": 1, "books": 0, "due": 0, "counts": 0, "run": 0, "money": 5, "date": 1, "back": 0}

func TestWordsWithEachCountOfNumbers(t *testing.T) {
	b := startBook(t).book
	for _, word := range deskWords {
		for n := range 9 {
			line := word + strings.Repeat(" 1", n)
			if n == numbersOfWords[word] {
				if _, told := askDeskLine(t, b, line); strings.HasPrefix(told, "code") {
					t.Errorf("of %q is told %q", line, told)
				}
			} else {
				isNoLine(t, b, line)
			}
			isNoLine(t, b, line+" ")
			isNoLine(t, b, " "+line)
			isNoLine(t, b, line+" x")
			isNoLine(t, b, strings.Replace(line+" 1", " ", "  ", 1))
			isNoLine(t, b, word+strings.Repeat(" x", n+1))
		}
	}
}

// A beginning is a script with the book that it leads to.
type beginning struct {
	text string
	book impl.Book
}

// someBeginnings are cut off ahead of each line of which is told that something is due, and one at the start.
func someBeginnings(t *testing.T) []beginning {
	t.Helper()
	list := []beginning{{"", impl.Book{Today: deskStart}}}
	for _, x := range []talk{oneCaseTalk, dueTalk} {
		for n, said := range x {
			if text := x[:n].text(); said.line == "due" && said.told != "-" {
				list = append(list, beginning{text, askLineByLine(t, text)})
			}
		}
	}
	return list
}

// askBothWays types a line alone, where a function says whose it is, and at the end of a script, where the map that is filled once does; the two must not contradict each other, nor the books behind them.
func askBothWays(t *testing.T, x beginning, line string) string {
	t.Helper()
	lines := []string{line, "counts", "books", "due", "case 0", "run", "counts", "back"}
	b, told := askDeskLine(t, x.book, line)
	alone := []string{told}
	for _, line := range lines[1:] {
		next, told := impl.DeskLine(b, line)
		b = next
		alone = append(alone, told)
	}
	all := wholeLines(impl.Desk(x.text + scriptOf(lines...)))
	if typed := all[len(all)-len(lines):]; !slices.Equal(typed, alone) {
		t.Errorf("behind %d lines %q and what follows it are told as %q in a script, and alone as %q", len(all)-len(lines), line, typed, alone)
	}
	return told
}

func TestFunctionAndMapSayTheSameOfWords(t *testing.T) {
	for _, x := range someBeginnings(t) {
		for _, word := range deskWords {
			for n := range 7 {
				for _, number := range []string{" 0", " 1", " 392", " 999999999999999"} {
					line := word + strings.Repeat(number, n)
					told := askBothWays(t, x, line)
					if known := n == numbersOfWords[word]; known == strings.HasPrefix(told, "code ") || !known && told != "code 1" {
						t.Errorf("of %q is told %q", line, told)
					}
				}
			}
		}
		askBothWays(t, x, "money 100 840 392 150 1")
	}
}

func TestFunctionAndMapSayTheSameOfNoWords(t *testing.T) {
	lines := []string{"", " ", "  ", "0", "1 1", "-", "what", "what 0", "what 1 840 392 1 1", "case0", "cases 0", "book", "dues", "count", "runs", "mone 1 840 392 1 1", "dates 0", "backs", "case x", "case -1", "case 00", "books x", "run ", " run", "back back", "\x00", "\xff", "bäck"}
	for _, word := range deskWords {
		for n := range 7 {
			rest := strings.Repeat(" 0", n)
			lines = append(lines, strings.ToUpper(word)+rest)
			for _, other := range withOtherCase(word) {
				lines = append(lines, other+rest)
			}
		}
	}
	for _, x := range someBeginnings(t) {
		for _, line := range lines {
			if told := askBothWays(t, x, line); told != "code 1" {
				t.Errorf("of %q is told %q, want code 1", line, told)
			}
		}
	}
}

func TestNumbersAtTheDesk(t *testing.T) {
	places := []string{"case #", "date #", "money # 840 392 150 1", "money 100 # 392 150 1", "money 100 840 # 150 1", "money 100 840 392 # 1", "money 100 840 392 150 #"}
	for _, b := range deskBooks(t)[1:3] {
		for _, place := range places {
			for _, number := range slices.Concat(goodNumbers, []string{"2", "59", "80000", "392", "48", "1000000", "1000001", "1000000000000", "1000000000001"}) {
				line := strings.Replace(place, "#", number, 1)
				if _, told := askDeskLine(t, b, line); strings.HasPrefix(told, "code") {
					t.Errorf("of %q is told %q", line, told)
				}
			}
			for _, number := range noNumbers {
				isNoLine(t, b, strings.Replace(place, "#", number, 1))
			}
		}
	}
}

func TestNearWordsOfTheDesk(t *testing.T) {
	b := startBook(t).book
	for _, word := range deskWords {
		for _, near := range nearTexts(word) {
			for _, rest := range []string{"", " 0", " 1 840 392 1 1"} {
				if near != word {
					askDeskLine(t, b, near+rest)
				}
			}
			if !slices.Contains(deskWords, near) {
				isNoLine(t, b, near)
			}
		}
		for _, other := range append(slices.Clone(deskWords), "day", "auth", "pay", "act") {
			isNoLine(t, b, word+" "+other)
			isNoLine(t, b, word+other)
			isNoLine(t, b, other+" "+word)
		}
	}
	for _, line := range deskLines {
		for _, other := range withOtherCase(line) {
			if other != line {
				isNoLine(t, b, other)
			}
		}
	}
}

func TestEveryByteAtTheDesk(t *testing.T) {
	b := startBook(t).book
	for _, line := range slices.Concat(deskLines[:1], deskLines[4:9], deskLines[10:11], deskLines[13:14], []string{""}) {
		for at := range len(line) + 1 {
			for b256 := range 256 {
				askDeskLine(t, b, line[:at]+oneByte(b256)+line[at:])
				if at < len(line) {
					askDeskLine(t, b, line[:at]+oneByte(b256)+line[at+1:])
				}
			}
			for end := at + 1; end <= len(line); end++ {
				askDeskLine(t, b, line[:at]+line[end:])
				askDeskLine(t, b, line[at:end])
			}
			if t.Failed() {
				return
			}
		}
	}
}

// Every byte stands in a script, alone and within its lines.
func TestEveryByteOfAScript(t *testing.T) {
	for b256 := range 256 {
		for _, text := range []string{oneByte(b256), oneByte(b256) + "\n", "due" + oneByte(b256) + "books\n", "due\n" + oneByte(b256), "auth 00000000000" + oneByte(b256) + " 1 840 500\npay 1 4 840 500\nback\n"} {
			askDesk(t, text)
		}
	}
	for n := range 60 {
		askDesk(t, someText(n, 3*n))
		askDesk(t, someText(n, 3*n)+"\n")
		askDesk(t, somePlain(n, 7*n)+"\n")
		askDesk(t, "case "+someDigits(n, n)+"\ndate "+someDigits(n, n)+"\n")
	}
}

func TestDatesAtTheDesk(t *testing.T) {
	b := impl.Book{}
	for day := 0; day <= lastDay+3; day += 7 {
		if _, told := impl.DeskLine(b, fmt.Sprintf("date %d", day)); told != wantDate(day) && (told != "none" || isDay(day)) {
			t.Fatalf("of day %d is told %q", day, told)
		}
	}
	for _, day := range slices.Concat(edgeDays, edgeInts) {
		askDeskLine(t, b, fmt.Sprintf("date %d", day))
	}
}

func TestMoneyAtTheDesk(t *testing.T) {
	b := impl.Book{}
	for _, from := range []int{392, 840, 48, 5} {
		for _, to := range []int{392, 978, 414, 0} {
			for _, num := range []int{0, 1, 3, 999, 1000, 1001, 10000, 10001, 1000000, 1000001} {
				for _, den := range []int{0, 1, 7, 1000, 1001, 10000, 10001, 1000000, 1000001} {
					for _, x := range []int{0, 1, 5, 50, 149, 150, 151, 123456789, most / 1000, most - 1, most, most + 1, -1} {
						askDeskLine(t, b, fmt.Sprintf("money %d %d %d %d %d", x, from, to, num, den))
					}
				}
			}
		}
	}
}

// Each case is told by its own number, and none behind the last.
func TestCasesAtTheDesk(t *testing.T) {
	j := newJournal(t, 9000, nil)
	for n := range 25 {
		if _, told := askDeskLine(t, j.book, fmt.Sprintf("case %d", n)); told != "none" {
			t.Errorf("of case %d of %d is told %q", n, len(j.book.Cases), told)
		}
		j.fillCases(t, n+1)
		for k, c := range j.book.Cases {
			if _, told := askDeskLine(t, j.book, fmt.Sprintf("case %d", k)); told != impl.CaseText(c) || told == "" {
				t.Errorf("of case %d of %d is told %q", k, len(j.book.Cases), told)
			}
		}
	}
	// What is no case is there, and its text is empty.
	b := bookOf(anyCase(0, 0, 0, -1), impl.Case{}, anyCase(8, 0, 0, -1))
	for line, want := range map[string]string{"case 0": "open 1 4 840 100.00 0.00 0.00 -", "case 1": "", "case 2": "", "case 3": "none"} {
		if _, told := askDeskLine(t, b, line); told != want {
			t.Errorf("of %q is told %q, want %q", line, told, want)
		}
	}
	for _, n := range []int{mostCases - 1, mostCases, mostCases + 1, 5000} {
		b := bookOf(closedCases(n)...)
		if _, told := askDeskLine(t, b, fmt.Sprintf("case %d", n-1)); told != "closed 1 4 840 100.00 0.00 0.00 -" {
			t.Errorf("of the last of %d cases is told %q", n, told)
		}
		if _, told := askDeskLine(t, b, fmt.Sprintf("case %d", n)); told != "none" {
			t.Errorf("behind the last of %d cases is told %q", n, told)
		}
	}
}

func TestBackNamed(t *testing.T) {
	start := func(day int, off []int, lines ...string) impl.Book {
		b, done := impl.BookAll(day, off, lines)
		if done != len(lines) {
			t.Fatalf("of %q %d are done", lines, done)
		}
		return b
	}
	changed := func(change func(*impl.Book)) impl.Book {
		b := cloneBook(startBook(t).book)
		change(&b)
		return b
	}
	for _, x := range []struct {
		what string
		b    impl.Book
		want string
	}{
		{"a start", start(9000, nil), "same"},
		{"the zero value", impl.Book{}, "other"},
		{"a start a day ahead", start(8999, nil), "other"},
		{"a start a day behind", start(9001, nil), "other"},
		{"lines", startBook(t).book, "same"},
		{"what ran out", func() impl.Book { j := dueBook(t); j.must(t, dayLine(9085)); j.expire(t); return j.book }(), "same"},
		{"from another day to the same day", start(8999, nil, "day 9000"), "same"},
		{"from another day on, to a day behind", start(8999, nil, "day 9001"), "same"},
		{"paid on another day", start(8999, nil, "day 9000", "auth 000000000001 1 840 500", "pay 1 4 840 500"), "other"},
		{"a start with days off", start(9000, []int{9001}), "same"},
		{"paid with days off", start(9000, []int{9001}, "auth 000000000001 1 840 500", "pay 1 4 840 500"), "same"},
		{"asked with days off", start(9000, []int{9001}, "auth 000000000001 1 840 500", "pay 1 4 840 500", "act 0 ask 0 0"), "other"},
		{"asked with another day off", start(9000, []int{8999}, "auth 000000000001 1 840 500", "pay 1 4 840 500", "act 0 ask 0 0"), "same"},
		{"another day", changed(func(b *impl.Book) { b.Today++ }), "other"},
		{"no day", changed(func(b *impl.Book) { b.Today = -1 }), "other"},
		{"another case", changed(func(b *impl.Book) { b.Cases[0].Claim = 1 }), "other"},
		{"a case in another state", changed(func(b *impl.Book) { b.Cases[1].State = 7 }), "other"},
		{"a case that is none", changed(func(b *impl.Book) { b.Cases[1] = impl.Case{} }), "other"},
		{"a case less", changed(func(b *impl.Book) { b.Cases = b.Cases[:1] }), "other"},
		{"a case more", changed(func(b *impl.Book) { b.Cases = append(b.Cases, anyCase(7, 0, 0, -1)) }), "other"},
		{"the cases in another order", changed(func(b *impl.Book) { slices.Reverse(b.Cases) }), "other"},
		{"another account", changed(func(b *impl.Book) { b.Ledger = ledger(line(1, 840, -500), line(5, 840, 500)) }), "other"},
		{"no accounts", changed(func(b *impl.Book) { b.Ledger = ledger() }), "other"},
		{"a ledger that is none", changed(func(b *impl.Book) { b.Ledger = ledger(line(1, 840, 5)) }), "other"},
		{"a line that does not show less", changed(func(b *impl.Book) { b.Log = b.Log[:4] }), "same"},
		{"a line that shows less", changed(func(b *impl.Book) { b.Log = b.Log[:3] }), "other"},
		{"no lines", changed(func(b *impl.Book) { b.Log = nil }), "other"},
		{"the first line less", changed(func(b *impl.Book) { b.Log = b.Log[1:] }), "other"},
		{"a line that is refused more", changed(func(b *impl.Book) { b.Log = append(b.Log, "what", "day 9001") }), "same"},
		{"a line that is done more", changed(func(b *impl.Book) { b.Log = append(b.Log, "day 9001") }), "other"},
		{"a line that is refused between", changed(func(b *impl.Book) { b.Log = slices.Insert(b.Log, 2, "") }), "other"},
		{"two lines in one", changed(func(b *impl.Book) { b.Log = append([]string{b.Log[0] + "\n" + b.Log[1]}, b.Log[2:]...) }), "same"},
		{"all lines in one", changed(func(b *impl.Book) { b.Log = []string{strings.Join(b.Log, "\n")} }), "same"},
		{"a word of the desk as a line", changed(func(b *impl.Book) { b.Log = append(b.Log, "run") }), "same"},
		{"other auths", changed(func(b *impl.Book) { b.Auths = nil }), "same"},
		{"other days off", changed(func(b *impl.Book) { b.Off = []int{5, 5} }), "same"},
		{"a case's start", changed(func(b *impl.Book) { b.Cases[0].Start-- }), "same"},
		{"a full log", start(9000, nil, daysAt(9001, mostLog)...), "same"},
		{"more than a full log", impl.Book{Today: 9000 + mostLog + 1, Log: daysAt(9001, mostLog+1)}, "other"},
		{"what is done of more than a full log", impl.Book{Today: 9000 + mostLog, Log: daysAt(9001, mostLog+1)}, "same"},
	} {
		got, told := askDeskLine(t, x.b, "back")
		if told != x.want || !sameBook(got, x.b) {
			t.Errorf("%s: %q, want %q", x.what, told, x.want)
		}
	}
}

// daysAt are the lines of n days, from one on.
func daysAt(first, n int) []string {
	var list []string
	for i := range n {
		list = append(list, dayLine(first+i))
	}
	return list
}

func TestOddBooksAtTheDesk(t *testing.T) {
	for i, b := range slices.Concat(oddBooks(), someBooks(t), []impl.Book{bookOf(badCases()...), bookOf(allCases()...)}) {
		for _, line := range slices.Concat(deskLines, oddLines) {
			askDeskLine(t, b, line)
		}
		if t.Failed() {
			t.Fatal("book", i)
		}
	}
	uneven := impl.Book{Today: 9000, Ledger: ledger(line(1, 840, 5))}
	if _, told := askDeskLine(t, uneven, "books"); told != "" {
		t.Errorf("of a ledger that is none is told %q", told)
	}
	if _, told := askDeskLine(t, bookOf(anyCase(8, 0, 0, -1), anyCase(3, 0, 0, -1)), "counts"); told != "0 0 0 1 0 0 0 0" {
		t.Errorf("with a state that is none is told %q", told)
	}
	for _, cases := range [][]impl.Case{allCases(), badCases()} {
		for _, today := range []int{0, 31, 9000, lastDay, lastDay + 1, -1} {
			askDeskLine(t, impl.Book{Today: today, Cases: cases}, "due")
			askDeskLine(t, impl.Book{Today: today, Cases: cases}, "counts")
		}
	}
}

// someTyped is a line that somebody may type, the desk's or the book's.
func (x *chance) someTyped(j *journal) string {
	switch x.below(20) {
	case 0:
		return fmt.Sprintf("case %d", x.below(len(j.book.Cases)+2))
	case 1:
		return fmt.Sprintf("date %d", x.of([]int{0, 59, 9000, j.book.Today, lastDay, lastDay + 1, x.below(lastDay)}))
	case 2:
		return fmt.Sprintf("money %d %d %d %d %d", x.below(100000), x.of([]int{840, 392, 48, 1}), x.of([]int{978, 392, 414}), x.below(2000), x.below(1500))
	case 3, 4, 5:
		return x.ofTexts(deskLines)
	case 6:
		return x.ofTexts([]string{"due", "run", "books", "counts"})
	case 7:
		return x.ofTexts(badWords(x.ofTexts(deskLines)))
	case 8:
		return dayLine(max(j.book.Today, x.someDue(j.book)) + 1)
	}
	return j.someLine(x)
}

func (x *chance) someDue(b impl.Book) int {
	if len(b.Cases) == 0 {
		return 0
	}
	return b.Cases[x.below(len(b.Cases))].Due
}

func (x *chance) ofTexts(list []string) string { return list[x.below(len(list))] }

// someScript is a script of so many lines that chance types, with the book that it leads to.
func someScript(t *testing.T, thrown *chance, n int) (string, impl.Book) {
	t.Helper()
	j := newJournal(t, deskStart, nil)
	text := ""
	for i := range n {
		line := strings.ReplaceAll(thrown.someTyped(j), "\n", "?")
		// Without some cases to begin with there is little to type.
		if i < 8 && i%2 == 0 {
			line = authLine(1000+i, 1+i/2, 840, 1000+i)
		} else if i < 8 {
			line = payLine(1+i/2, 6, 840, 999+i)
		}
		j.book, _ = wantDeskLine(j.book, line)
		text += line + "\n"
	}
	return text, j.book
}

// Scripts that chance types are held against the promise.
func TestManyScripts(t *testing.T) {
	thrown := chance(14)
	told := map[string]int{}
	for n := range 60 {
		size := 40 + 260*(n%10/9) - n%3
		text, want := someScript(t, &thrown, size)
		if b := askLineByLine(t, text); !sameBook(b, want) {
			t.Errorf("the script leads to %s, want %s", shortBook(b), shortBook(want))
		}
		for i, line := range wholeLines(askDesk(t, text)) {
			word := strings.Split(wholeLines(text)[i], " ")[0]
			if strings.HasPrefix(line, "code") || line == "none" || line == "-" || line == "same" || line == "done 0" {
				told[line]++
			} else {
				told[word]++
			}
			if line == "other" {
				t.Errorf("the book was not the same behind line %d", i)
			}
		}
		if n%10 != 9 {
			askScript(t, text)
		}
		if t.Failed() {
			t.Fatalf("script %d: %q", n, text)
		}
	}
	for _, what := range []string{"case", "books", "due", "counts", "run", "money", "date", "same", "none", "-", "done 0", "code 0", "code 1", "code 3", "code 4", "code 5", "code 11", "code 12", "code 13", "code 14"} {
		if told[what] < 10 {
			t.Errorf("too little was told: %v", told)
			break
		}
	}
}

// What is asked between the lines of a script changes nothing that is told of them.
func TestAskingChangesNothing(t *testing.T) {
	thrown := chance(77)
	asking := slices.DeleteFunc(slices.Clone(deskLines), func(line string) bool { return line == "run" })
	for range 20 {
		text, _ := someScript(t, &thrown, 60)
		lines, told := wholeLines(text), wholeLines(impl.Desk(text))
		var with []string
		for _, line := range lines {
			for range thrown.below(4) {
				with = append(with, thrown.ofTexts(asking))
			}
			with = append(with, line)
		}
		got := wholeLines(impl.Desk(scriptOf(with...)))
		at := 0
		for i, line := range with {
			if at < len(lines) && line == lines[at] && got[i] == told[at] {
				at++
			}
		}
		if at != len(lines) || len(got) != len(with) {
			t.Fatalf("with %d lines that ask, line %d, %q, is told otherwise", len(with)-len(lines), at, lines[min(at, len(lines)-1)])
		}
	}
}

// Two scripts that lead to the same book go on in the same way.
func TestScriptsGoOnFromTheirBook(t *testing.T) {
	thrown := chance(29)
	for range 30 {
		text, b := someScript(t, &thrown, 80)
		more := []string{"books", "due", "counts", "run", "books", "case 0", "case 3", "back", dayLine(b.Today + 30), "due", "run", "counts", "back"}
		one := wholeLines(impl.Desk(text + scriptOf(more...)))
		// Only what was done was written, so that its lines alone lead to the same book.
		two := wholeLines(impl.Desk(impl.BookText(b) + scriptOf(more...)))
		if len(one) < len(more) || len(two) < len(more) || !slices.Equal(one[len(one)-len(more):], two[len(two)-len(more):]) {
			t.Fatalf("of a script is told\n%q, of its lines\n%q", one, two)
		}
	}
}

func TestAnyDeskIsAnswered(t *testing.T) {
	thrown := chance(141)
	ledgers := slices.DeleteFunc(allLedgers(), func(l impl.Ledger) bool { return len(l.Lines) > 20 })
	for range 6000 {
		b := anythingAsBook(&thrown, ledgers)
		j := &journal{book: b}
		for range 3 {
			askDeskLine(t, b, thrown.someTyped(j))
		}
		askDeskLine(t, b, thrown.ofTexts(deskLines))
		askDeskLine(t, b, someText(thrown.below(30), thrown.below(256)))
		if t.Failed() {
			t.Fatal("of", b)
		}
	}
}

// deskCalls are all lines that are asked of a book, done, refused and told.
func deskCalls() []string {
	return slices.Concat(deskLines, goodLines, oddLines, []string{"day 9100", "act 1 charge 700 4855", "act 1 expire 0 0", "case", "due 0", " run"})
}

func TestTheDeskDoesNotWriteIntoBooks(t *testing.T) {
	for i, b := range append(someBooks(t), deskBooks(t)...) {
		room := withRoom(b)
		kept := cloneBook(allRoom(room))
		for range 2 {
			for _, line := range deskCalls() {
				impl.DeskLine(room, line)
			}
		}
		if !sameBook(allRoom(room), kept) {
			t.Errorf("book %d, or the room behind its lists, was written into", i)
		}
	}
}

// What stands behind the end of a list is no part of it.
func TestBehindTheListsNothingIsReadAtTheDesk(t *testing.T) {
	for i, b := range append(someBooks(t), deskBooks(t)...) {
		room := withRoom(b)
		for _, line := range deskCalls() {
			got, told := impl.DeskLine(room, line)
			want, wantTold := impl.DeskLine(cloneBook(b), line)
			if told != wantTold || !sameBook(got, want) {
				t.Errorf("of book %d %q is %q, %s, want %q, %s", i, line, told, shortBook(got), wantTold, shortBook(want))
			}
		}
	}
}

func TestBooksOfTheDeskAreNewMemory(t *testing.T) {
	for i, b := range append(someBooks(t), deskBooks(t)...) {
		for _, line := range deskCalls() {
			what := fmt.Sprintf("%q of book %d", line, i)
			mine, kept := cloneBook(b), cloneBook(b)
			one, oneTold := impl.DeskLine(mine, line)
			two, twoTold := impl.DeskLine(mine, line)
			want := cloneBook(two)
			if len(b.Log)+len(b.Auths) < 60 {
				texts := bookTexts(one)
				askTextsApart(t, what, texts, slices.Concat(bookTexts(mine), bookTexts(two), []string{line, oneTold}))
				for n := range texts {
					askTextsApart(t, what, texts[n:n+1], texts[n+1:])
				}
				askTextsApart(t, what, []string{oneTold}, slices.Concat(bookTexts(mine), []string{line}))
			}
			overwriteBook(one)
			again, told := impl.DeskLine(mine, line)
			if !sameBook(mine, kept) || !sameBook(two, want) || !sameBook(again, want) || told != twoTold || oneTold != twoTold {
				t.Fatalf("%s: an answer that is changed changes another thing", what)
			}
			overwriteBook(mine)
			if !sameBook(two, want) {
				t.Fatalf("%s: a book that is changed changes an answer", what)
			}
		}
	}
}

func TestTextsOfTheDeskAreNewMemory(t *testing.T) {
	for _, x := range talks()[1:] {
		text := x.text()
		askTextsApart(t, "Desk", []string{impl.Desk(text)}, []string{text})
		askTextsApart(t, "Desk", []string{impl.Desk(text)}, []string{impl.Desk(text)})
	}
}

// What was typed at one desk is not known at another.
func TestDesksAreNotKept(t *testing.T) {
	for range 3 {
		if got := impl.Desk("auth 000000000001 1 840 500\npay 1 4 840 500\nday 9001\n"); got != "code 0\ncode 0\ncode 0\n" {
			t.Errorf("it is told %q", got)
		}
		if got := impl.Desk("counts\nbooks\ncase 0\n"); got != "0 0 0 0 0 0 0 0\n-\nnone\n" {
			t.Errorf("it is told %q", got)
		}
	}
	start, _ := impl.BookStart(9000, nil)
	one, _ := impl.DeskLine(start, "auth 000000000001 1 840 500")
	a, _ := impl.DeskLine(one, "pay 1 4 840 500")
	b, _ := impl.DeskLine(one, "pay 1 5 840 400")
	if len(one.Cases) != 0 || one.Auths[0].Used || a.Cases[0].Acquirer != 4 || b.Cases[0].Acquirer != 5 || a.Log[1] == b.Log[1] {
		t.Error("two desks that go on from one book are", a, b)
	}
}

// deskAnswers are the answers of both functions, in one order.
func deskAnswers(books []impl.Book) []string {
	var list []string
	for _, b := range books {
		for _, line := range deskCalls() {
			next, told := impl.DeskLine(b, line)
			list = append(list, told, fmt.Sprint(next))
		}
	}
	for _, x := range talks() {
		list = append(list, impl.Desk(x.text()), impl.Desk(x.text()+"x"))
	}
	return list
}

func TestTheDeskAnswersTheSameAgain(t *testing.T) {
	books := append(someBooks(t), deskBooks(t)...)
	first := deskAnswers(books)
	for range 3 {
		if !slices.Equal(deskAnswers(books), first) {
			t.Fatal("asked again, another answer is given")
		}
	}
	same := make([]bool, 8)
	var all sync.WaitGroup
	for i := range same {
		all.Go(func() { same[i] = slices.Equal(deskAnswers(books), first) })
	}
	all.Wait()
	if slices.Contains(same, false) {
		t.Error("asked side by side, another answer is given")
	}
}

// rightDesks lets many begin at once, so that whoever comes second finds the words while they are being registered.
func rightDesks() bool {
	list := talks()
	right := make([]bool, 64)
	begin := make(chan struct{})
	var all sync.WaitGroup
	for i := range right {
		x := list[i%len(list)]
		all.Go(func() {
			<-begin
			_, told := impl.DeskLine(impl.Book{}, "counts")
			right[i] = impl.Desk(x.text()) == x.told() && told == "0 0 0 0 0 0 0 0"
		})
	}
	close(begin)
	all.Wait()
	return !slices.Contains(right, false)
}

func TestTheDeskAtTheFirstCall(t *testing.T) {
	calls := []firstCall{
		{"Desk", func() bool { return impl.Desk("books\n") == "-\n" }},
		{"NoScript", func() bool { return impl.Desk("books") == "long\n" }},
		{"SideBySide", rightDesks},
	}
	for _, line := range deskLines {
		b := impl.Book{Today: deskStart}
		_, want := wantDeskLine(b, line)
		calls = append(calls, firstCall{line, func() bool {
			_, told := impl.DeskLine(b, line)
			return told == want
		}})
		calls = append(calls, firstCall{"Desk of " + line, func() bool { return impl.Desk(line+"\n") == want+"\n" }})
	}
	askFirstCalls(t, calls)
}
