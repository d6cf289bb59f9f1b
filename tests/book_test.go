package tests

import (
	"fmt"
	"maps"
	"regexp"
	"slices"
	"strconv"
	"strings"
	"sync"
	"testing"

	"loop.example/g00126/impl"
)

const (
	mostCases = 150
	mostLog   = 600
)

// numForm is a number with the blank ahead of it: 0, or up to 15 digits the first of which is no nought.
const numForm = ` (0|[1-9][0-9]{0,14})`

var actNames = []string{"ask", "give", "charge", "answer", "second", "accept", "refuse", "rule", "expire", "close"}

var (
	dayForm  = regexp.MustCompile(`\Aday` + numForm + `\z`)
	authForm = regexp.MustCompile(`\Aauth ([^ ]+)` + numForm + numForm + numForm + `\z`)
	payForm  = regexp.MustCompile(`\Apay` + numForm + numForm + numForm + numForm + `\z`)
	actForm  = regexp.MustCompile(`\Aact` + numForm + ` (` + strings.Join(actNames, "|") + `)` + numForm + numForm + `\z`)
)

// numsOf reads the words of a form that are numbers; the others are left out.
func numsOf(words []string) []int {
	var nums []int
	for _, word := range words[1:] {
		if x, err := strconv.Atoi(word); err == nil {
			nums = append(nums, x)
		}
	}
	return nums
}

func sameBook(a, b impl.Book) bool {
	return a.Today == b.Today && slices.Equal(a.Off, b.Off) && slices.Equal(a.Auths, b.Auths) && slices.Equal(a.Cases, b.Cases) &&
		sameLedger(a.Ledger, b.Ledger) && slices.Equal(a.Log, b.Log)
}

func isZeroBook(b impl.Book) bool { return sameBook(b, impl.Book{}) }

// cloneBook copies the texts too, so that what is written over in one book is not seen in the other.
func cloneBook(b impl.Book) impl.Book {
	clone := impl.Book{Today: b.Today, Off: slices.Clone(b.Off), Auths: cloneAuths(b.Auths), Cases: slices.Clone(b.Cases), Log: slices.Clone(b.Log)}
	clone.Ledger.Lines = slices.Clone(b.Ledger.Lines)
	for i := range clone.Log {
		clone.Log[i] = strings.Clone(clone.Log[i])
	}
	return clone
}

func short[T any](list []T) string {
	if len(list) > 4 {
		return fmt.Sprintf("%v .. (%d)", list[:4], len(list))
	}
	return fmt.Sprint(list)
}

// shortBook keeps a failure readable.
func shortBook(b impl.Book) string {
	last := ""
	if len(b.Log) > 0 {
		last = b.Log[len(b.Log)-1]
	}
	return fmt.Sprintf("{day %d, off %s, auths %s, cases %s, lines %s, %d in the log, last %q}",
		b.Today, short(b.Off), shortAuths(b.Auths), short(b.Cases), short(b.Ledger.Lines), len(b.Log), last)
}

func wantDayLine(b impl.Book, day int) (impl.Book, int) {
	if !isDay(day) || day <= b.Today {
		return b, 4
	}
	b.Today, b.Auths = day, wantPrune(b.Auths, day)
	return b, 0
}

func wantAuthLine(b impl.Book, ref string, nums []int) (impl.Book, int) {
	auths, ok := wantAdd(b.Auths, impl.Auth{Ref: ref, Issuer: nums[0], Cur: nums[1], Amount: nums[2], Day: b.Today})
	if !ok {
		return b, 3
	}
	b.Auths = auths
	return b, 0
}

func wantPayLine(b impl.Book, nums []int) (impl.Book, int) {
	issuer, acquirer, cur, amount := nums[0], nums[1], nums[2], nums[3]
	best := wantBest(b.Auths, payment{issuer, cur, amount, b.Today})
	c := impl.Case{Issuer: issuer, Acquirer: acquirer, Cur: cur, Amount: amount, Start: b.Today, Due: -1}
	books, posted := wantPostAll(b.Ledger, []impl.Entry{entry(issuer, acquirer, cur, amount)})
	switch {
	case best < 0:
		return b, 3
	case len(b.Cases) >= mostCases:
		return b, 2
	case !wantCaseOk(c):
		return b, 5
	case !posted:
		return b, 6
	}
	b.Auths, _ = wantUse(b.Auths, best)
	b.Cases, b.Ledger = slices.Concat(b.Cases, []impl.Case{c}), books
	return b, 0
}

func wantActLine(b impl.Book, name string, nums []int) (impl.Book, int) {
	n, kind := nums[0], slices.Index(actNames, name)
	if n >= len(b.Cases) {
		return b, 5
	}
	c, list, code := wantCaseDo(scene{b.Cases[n], act(kind, nums[1], nums[2]), b.Today, b.Off})
	if code != 0 {
		return b, 10 + code
	}
	books, posted := wantPostAll(b.Ledger, list)
	if !posted {
		return b, 6
	}
	b.Cases, b.Ledger = slices.Concat(b.Cases[:n], []impl.Case{c}, b.Cases[n+1:]), books
	return b, 0
}

// wantBookDo is the second reckoning: the lines are read by their forms, and nothing of the program is asked.
func wantBookDo(b impl.Book, line string) (impl.Book, int) {
	if len(b.Log) >= mostLog {
		return b, 2
	}
	next, code := b, 1
	if words := dayForm.FindStringSubmatch(line); words != nil {
		next, code = wantDayLine(b, numsOf(words)[0])
	}
	if words := authForm.FindStringSubmatch(line); words != nil {
		// The ref may be a number too.
		next, code = wantAuthLine(b, words[1], numsOf(words[1:]))
	}
	if words := payForm.FindStringSubmatch(line); words != nil {
		next, code = wantPayLine(b, numsOf(words))
	}
	if words := actForm.FindStringSubmatch(line); words != nil {
		next, code = wantActLine(b, words[2], numsOf(words))
	}
	if code != 0 {
		return b, code
	}
	next.Log = slices.Concat(b.Log, []string{line})
	return next, 0
}

func wantBookAll(start int, off []int, lines []string) (impl.Book, int) {
	if !isDay(start) || !isOffList(off) {
		return impl.Book{}, -1
	}
	b := impl.Book{Today: start, Off: off}
	for i, line := range lines {
		next, code := wantBookDo(b, line)
		if code != 0 {
			return b, i
		}
		b = next
	}
	return b, len(lines)
}

// wholeLines are the lines of a text that end with a newline, found byte by byte.
func wholeLines(text string) []string {
	var lines []string
	from := 0
	for i := range len(text) {
		if text[i] == 10 {
			lines = append(lines, text[from:i])
			from = i + 1
		}
	}
	return lines
}

func wantBookText(b impl.Book) string {
	text := []byte{}
	for _, line := range b.Log {
		text = append(append(text, line...), 10)
	}
	return string(text)
}

func wantOpen(b impl.Book) []int {
	var list []int
	for n := range b.Cases {
		if b.Cases[n].State != 7 {
			list = append(list, n)
		}
	}
	return list
}

func wantDueList(b impl.Book) []int {
	var list []int
	for n := range b.Cases {
		if b.Cases[n].State != 7 && wantLate(b.Today, b.Cases[n].Due) {
			list = append(list, n)
		}
	}
	return list
}

func wantExpire(b impl.Book) (impl.Book, int) {
	done := 0
	for _, n := range wantDueList(b) {
		next, code := wantBookDo(b, fmt.Sprintf("act %d expire 0 0", n))
		if code == 0 {
			b = next
			done++
		}
	}
	return b, done
}

// askBookDo holds what a line makes of a book against the second reckoning, and against what must be so whatever the line is.
func askBookDo(t *testing.T, b impl.Book, line string) (impl.Book, int) {
	t.Helper()
	got, code := impl.BookDo(b, line)
	want, wantCode := wantBookDo(b, line)
	if code != wantCode || !sameBook(got, want) {
		t.Errorf("%q to %s:\n%d, %s, want\n%d, %s", line, shortBook(b), code, shortBook(got), wantCode, shortBook(want))
	}
	if code != 0 && !sameBook(got, b) {
		t.Errorf("%q to %s is refused with %d, and makes %s", line, shortBook(b), code, shortBook(got))
	}
	if code == 0 {
		askLineDone(t, b, got, line)
	}
	return got, code
}

func askLineDone(t *testing.T, before, after impl.Book, line string) {
	t.Helper()
	if !slices.Equal(after.Log, append(slices.Clone(before.Log), line)) {
		t.Errorf("%q does not stand behind the log: %s", line, shortBook(after))
	}
	changed := 0
	for n, c := range after.Cases {
		if n >= len(before.Cases) || before.Cases[n] != c {
			changed++
		}
	}
	if changed > 1 || len(after.Cases) < len(before.Cases) || !slices.Equal(after.Off, before.Off) || after.Today < before.Today {
		t.Errorf("%q changes %d cases and makes %s of %s", line, changed, shortBook(after), shortBook(before))
	}
}

func askBookAll(t *testing.T, start int, off []int, lines []string) (impl.Book, int) {
	t.Helper()
	got, n := impl.BookAll(start, off, lines)
	want, wantN := wantBookAll(start, off, lines)
	if n != wantN || !sameBook(got, want) {
		t.Errorf("BookAll from day %d of %s:\n%d, %s, want\n%d, %s", start, short(lines), n, shortBook(got), wantN, shortBook(want))
	}
	return got, n
}

func askBookRead(t *testing.T, start int, off []int, text string) (impl.Book, int) {
	t.Helper()
	got, n := impl.BookRead(start, off, text)
	want, wantN := wantBookAll(start, off, wholeLines(text))
	if n != wantN || !sameBook(got, want) {
		t.Errorf("BookRead from day %d of %.200q:\n%d, %s, want\n%d, %s", start, text, n, shortBook(got), wantN, shortBook(want))
	}
	return got, n
}

func askBookText(t *testing.T, b impl.Book) string {
	t.Helper()
	got := impl.BookText(b)
	if want := wantBookText(b); got != want {
		t.Errorf("BookText of %s is %.200q, want %.200q", shortBook(b), got, want)
	}
	return got
}

func askOpenAndDue(t *testing.T, b impl.Book) ([]int, []int) {
	t.Helper()
	open, due := impl.BookOpen(b), impl.BookDue(b)
	if want := wantOpen(b); !slices.Equal(open, want) {
		t.Errorf("BookOpen of %s is %v, want %v", shortBook(b), open, want)
	}
	if want := wantDueList(b); !slices.Equal(due, want) {
		t.Errorf("BookDue of %s is %v, want %v", shortBook(b), due, want)
	}
	return open, due
}

func askExpire(t *testing.T, b impl.Book) (impl.Book, int) {
	t.Helper()
	got, done := impl.BookExpire(b)
	want, wantDone := wantExpire(b)
	if done != wantDone || !sameBook(got, want) {
		t.Errorf("BookExpire of %s:\n%d, %s, want\n%d, %s", shortBook(b), done, shortBook(got), wantDone, shortBook(want))
	}
	if len(got.Log) != len(b.Log)+done {
		t.Errorf("BookExpire of %s tells %d, and the log has %d lines", shortBook(b), done, len(got.Log))
	}
	return got, done
}

// A journal is a book that lines led to from its start, with what it was behind each of them.
type journal struct {
	start int
	off   []int
	book  impl.Book
	past  []impl.Book
	// fees has what each account paid to the house in each currency.
	fees map[[2]int]int
}

func newJournal(t *testing.T, start int, off []int) *journal {
	t.Helper()
	b, ok := impl.BookStart(start, off)
	if !ok || !sameBook(b, impl.Book{Today: start, Off: off}) {
		t.Fatalf("BookStart on day %d is %v, %s", start, ok, shortBook(b))
	}
	return &journal{start: start, off: off, book: b, past: []impl.Book{b}, fees: map[[2]int]int{}}
}

// do does a line, holds the book behind it against the promise, and answers the code.
func (j *journal) do(t *testing.T, line string) int {
	t.Helper()
	next, code := askBookDo(t, j.book, line)
	if code == 0 {
		j.goOn(t, next)
	}
	return code
}

// goOn takes a book that has one line more.
func (j *journal) goOn(t *testing.T, next impl.Book) {
	t.Helper()
	if words := actForm.FindStringSubmatch(next.Log[len(next.Log)-1]); words != nil {
		nums := numsOf(words)
		_, list, _ := wantCaseDo(scene{j.book.Cases[nums[0]], act(slices.Index(actNames, words[2]), nums[1], nums[2]), j.book.Today, j.off})
		for _, e := range list {
			if e.To == theHouse {
				j.fees[[2]int{e.From, e.Cur}] += e.Amount
			}
		}
	}
	j.book = next
	j.past = append(j.past, next)
	j.askBalances(t)
}

func (j *journal) must(t *testing.T, lines ...string) {
	t.Helper()
	for _, line := range lines {
		if code := j.do(t, line); code != 0 {
			t.Fatalf("%q to %s: %d", line, shortBook(j.book), code)
		}
	}
}

// askBalances counts from the cases what each account must have, and wants just that in the ledger.
func (j *journal) askBalances(t *testing.T) {
	t.Helper()
	want := map[[2]int]int{}
	for _, c := range j.book.Cases {
		want[[2]int{c.Issuer, c.Cur}] -= c.Amount - c.Back
		want[[2]int{c.Acquirer, c.Cur}] += c.Amount - c.Back
		want[[2]int{theHouse, c.Cur}] += c.Fees
	}
	for key, fee := range j.fees {
		want[key] -= fee
	}
	maps.DeleteFunc(want, func(_ [2]int, balance int) bool { return balance == 0 })
	got := map[[2]int]int{}
	for _, x := range j.book.Ledger.Lines {
		got[[2]int{x.Acct, x.Cur}] = x.Amount
	}
	if !maps.Equal(got, want) || len(unevenCurrencies(j.book.Ledger)) > 0 || !impl.LedgerOk(j.book.Ledger) {
		t.Errorf("the accounts of %s are %v, want %v", shortBook(j.book), got, want)
	}
}

// askReadAgain wants the book from what was written of it, and what it was then from the lines up to there.
func (j *journal) askReadAgain(t *testing.T, cuts []int) {
	t.Helper()
	text := askBookText(t, j.book)
	if b, n := impl.BookRead(j.start, j.off, text); n != len(j.book.Log) || !sameBook(b, j.book) {
		t.Errorf("read again, %d lines are done: %s, want %s", n, shortBook(b), shortBook(j.book))
	}
	if b, n := impl.BookAll(j.start, j.off, j.book.Log); n != len(j.book.Log) || !sameBook(b, j.book) {
		t.Errorf("done again, %d lines are done: %s, want %s", n, shortBook(b), shortBook(j.book))
	}
	for _, cut := range cuts {
		lines := strings.Count(text[:cut], "\n")
		if b, n := impl.BookRead(j.start, j.off, text[:cut]); n != lines || !sameBook(b, j.past[lines]) {
			t.Fatalf("cut off at byte %d, %d lines are done: %s, want %d, %s", cut, n, shortBook(b), lines, shortBook(j.past[lines]))
		}
	}
}

// expire lets all run out that is due, line by line in the journal.
func (j *journal) expire(t *testing.T) int {
	t.Helper()
	after, done := askExpire(t, j.book)
	for _, line := range after.Log[len(j.book.Log):] {
		next, code := askBookDo(t, j.book, line)
		if code != 0 {
			t.Fatalf("%q is not done: %d", line, code)
		}
		j.goOn(t, next)
	}
	if !sameBook(j.book, after) {
		t.Errorf("what ran out makes %s, its lines %s", shortBook(after), shortBook(j.book))
	}
	return done
}

func authLine(n, issuer, cur, amount int) string {
	return fmt.Sprintf("auth %s %d %d %d", refOf(n), issuer, cur, amount)
}

func payLine(issuer, acquirer, cur, amount int) string {
	return fmt.Sprintf("pay %d %d %d %d", issuer, acquirer, cur, amount)
}

func actLine(n int, name string, amount, reason int) string {
	return fmt.Sprintf("act %d %s %d %d", n, name, amount, reason)
}

func dayLine(day int) string { return fmt.Sprintf("day %d", day) }

func TestNumbersOfTheBook(t *testing.T) {
	codes := []int{impl.BookDone, impl.BookLine, impl.BookFull, impl.BookAuth, impl.BookDay, impl.BookCase, impl.BookMoney}
	if !slices.Equal(codes, daysFrom(0, 1, 7)) || impl.BookAct != 10 {
		t.Error("the codes are", codes, impl.BookAct)
	}
	if impl.MaxCases != mostCases || impl.MaxLog != mostLog {
		t.Error("MaxCases is", impl.MaxCases, "and MaxLog is", impl.MaxLog)
	}
}

func TestBookStart(t *testing.T) {
	for _, today := range slices.Concat(edgeDays, []int{9000}) {
		for _, off := range goodOffLists() {
			want := impl.Book{}
			if isDay(today) {
				want = impl.Book{Today: today, Off: off}
			}
			if b, ok := impl.BookStart(today, off); ok != isDay(today) || !sameBook(b, want) {
				t.Errorf("BookStart on day %d with %d days off is %v, %s", today, len(off), ok, shortBook(b))
			}
		}
		for _, off := range badOffLists() {
			if b, ok := impl.BookStart(today, off); ok || !isZeroBook(b) {
				t.Errorf("BookStart on day %d with %s is %v, %s", today, short(off), ok, shortBook(b))
			}
		}
	}
	for today, want := range map[int]bool{-1: false, 0: true, 1: true, 79999: true, 80000: true, 80001: false} {
		if _, ok := impl.BookStart(today, []int{5, 6}); ok != want {
			t.Errorf("BookStart on day %d is %v", today, ok)
		}
	}
	if b, ok := impl.BookStart(7, []int{5, 6}); !ok || b.Today != 7 || !slices.Equal(b.Off, []int{5, 6}) || len(b.Auths)+len(b.Cases)+len(b.Ledger.Lines)+len(b.Log) > 0 {
		t.Error("BookStart is", b, ok)
	}
}

// handLines is a book whose codes, days, states and accounts are counted by hand. Day 9000 is a Thursday.
var handLines = []struct {
	line   string
	code   int
	today  int
	auths  int
	states string
	books  string
}{
	{"auth 000000000001 1 840 500", 0, 9000, 1, "", "-"},
	{"auth 000000000002 1 840 490", 0, 9000, 2, "", "-"},
	{"auth 000000000001 1 840 5", 3, 9000, 2, "", "-"},
	{"pay 2 4 840 494", 3, 9000, 2, "", "-"},
	{"pay 1 4 840 494", 0, 9000, 2, "open", "1 840 -4.94;4 840 4.94"},
	{"pay 1 4 840 540", 0, 9000, 2, "open open", "1 840 -10.34;4 840 10.34"},
	{"pay 1 4 840 494", 3, 9000, 2, "open open", "1 840 -10.34;4 840 10.34"},
	{"act 0 ask 0 0", 0, 9000, 2, "asked open", "1 840 -10.34;4 840 10.34"},
	{"act 0 charge 494 4837", 13, 9000, 2, "asked open", "1 840 -10.34;4 840 10.34"},
	{"day 9000", 4, 9000, 2, "asked open", "1 840 -10.34;4 840 10.34"},
	{"day 9028", 0, 9028, 0, "asked open", "1 840 -10.34;4 840 10.34"},
	{"act 0 expire 0 0", 14, 9028, 0, "asked open", "1 840 -10.34;4 840 10.34"},
	{"day 9029", 0, 9029, 0, "asked open", "1 840 -10.34;4 840 10.34"},
	{"act 0 give 0 0", 14, 9029, 0, "asked open", "1 840 -10.34;4 840 10.34"},
	{"act 0 expire 0 0", 0, 9029, 0, "given open", "1 840 -10.34;4 840 10.34"},
	{"act 0 charge 493 4837", 12, 9029, 0, "given open", "1 840 -10.34;4 840 10.34"},
	{"act 0 charge 494 4837", 0, 9029, 0, "charged open", "1 840 -5.40;4 840 5.40"},
	{"act 0 answer 495 0", 12, 9029, 0, "charged open", "1 840 -5.40;4 840 5.40"},
	{"act 0 answer 400 0", 0, 9029, 0, "answered open", "1 840 -9.40;4 840 9.40"},
	{"act 0 second 401 0", 12, 9029, 0, "answered open", "1 840 -9.40;4 840 9.40"},
	{"act 0 second 300 0", 0, 9029, 0, "second open", "1 840 -9.40;4 840 9.40"},
	{"act 0 refuse 0 0", 0, 9029, 0, "ruling open", "1 840 -9.40;4 840 9.40"},
	{"act 0 rule 301 0", 12, 9029, 0, "ruling open", "1 840 -9.40;4 840 9.40"},
	{"act 0 rule 150 0", 0, 9029, 0, "closed open", "1 840 -7.90;4 840 -492.10;9999 840 500.00"},
	{"act 0 close 0 0", 11, 9029, 0, "closed open", "1 840 -7.90;4 840 -492.10;9999 840 500.00"},
	{"act 1 close 0 0", 0, 9029, 0, "closed closed", "1 840 -7.90;4 840 -492.10;9999 840 500.00"},
	{"act 2 close 0 0", 5, 9029, 0, "closed closed", "1 840 -7.90;4 840 -492.10;9999 840 500.00"},
	{"", 1, 9029, 0, "closed closed", "1 840 -7.90;4 840 -492.10;9999 840 500.00"},
}

func statesOf(b impl.Book) string {
	var words []string
	for _, c := range b.Cases {
		words = append(words, stateWords[c.State])
	}
	return strings.Join(words, " ")
}

func handBook(t *testing.T) *journal {
	t.Helper()
	j := newJournal(t, 9000, nil)
	for _, x := range handLines {
		code := j.do(t, x.line)
		b := j.book
		if code != x.code || b.Today != x.today || len(b.Auths) != x.auths || statesOf(b) != x.states || impl.LedgerText(b.Ledger) != x.books {
			t.Errorf("%q: %d, %s, %s, %s; want %v", x.line, code, shortBook(b), statesOf(b), impl.LedgerText(b.Ledger), x)
		}
	}
	return j
}

func TestBookByHand(t *testing.T) {
	j := handBook(t)
	want := impl.Book{
		Today: 9029,
		Cases: []impl.Case{
			{Issuer: 1, Acquirer: 4, Cur: 840, Amount: 494, State: 7, Reason: 4837, Back: 244, Fees: 50000, Copied: true, Start: 9000, Due: -1},
			{Issuer: 1, Acquirer: 4, Cur: 840, Amount: 540, State: 7, Start: 9000, Due: -1},
		},
		Ledger: ledger(line(1, 840, -790), line(4, 840, -49210), line(9999, 840, 50000)),
		Log: []string{
			"auth 000000000001 1 840 500", "auth 000000000002 1 840 490", "pay 1 4 840 494", "pay 1 4 840 540", "act 0 ask 0 0", "day 9028", "day 9029",
			"act 0 expire 0 0", "act 0 charge 494 4837", "act 0 answer 400 0", "act 0 second 300 0", "act 0 refuse 0 0", "act 0 rule 150 0", "act 1 close 0 0",
		},
	}
	if !sameBook(j.book, want) {
		t.Errorf("the book is %v, want %v", j.book, want)
	}
	text := "auth 000000000001 1 840 500\nauth 000000000002 1 840 490\npay 1 4 840 494\npay 1 4 840 540\nact 0 ask 0 0\nday 9028\nday 9029\n" +
		"act 0 expire 0 0\nact 0 charge 494 4837\nact 0 answer 400 0\nact 0 second 300 0\nact 0 refuse 0 0\nact 0 rule 150 0\nact 1 close 0 0\n"
	if got := impl.BookText(j.book); got != text {
		t.Errorf("BookText is %q, want %q", got, text)
	}
	if b, n := impl.BookRead(9000, nil, text); n != 14 || !sameBook(b, want) {
		t.Errorf("BookRead is %d, %v", n, b)
	}
	// From another day on, or with other days off, the same lines make another book.
	if _, n := impl.BookRead(9028, nil, text); n != 5 {
		t.Errorf("from day 9028 on %d lines are done", n)
	}
	if _, n := impl.BookRead(9000, []int{9001}, text); n != 7 {
		t.Errorf("with day 9001 off %d lines are done", n)
	}
	j.askReadAgain(t, daysFrom(0, 1, len(text)+1))
}

// What each part of the book is behind each line of a first payment.
func TestPartsOfABook(t *testing.T) {
	b, _ := impl.BookStart(9000, []int{9001, 9005})
	a := impl.Auth{Ref: "aZ09!~_-;=.,", Issuer: 7, Cur: 392, Amount: 1000, Day: 9000}
	c := impl.Case{Issuer: 7, Acquirer: 3, Cur: 392, Amount: 1100, Start: 9003, Due: -1}
	asked, charged := c, c
	// Day 9005 is off: the 20th working day behind 9003, a Sunday, is a Monday.
	asked.State, asked.Due = 1, 9032
	charged.State, charged.Reason, charged.Claim, charged.Back, charged.Due = 3, 4831, 600, 600, 9046
	late := a
	late.Ref, late.Day = "000000000009", 9003
	steps := []struct {
		line  string
		today int
		auths []impl.Auth
		cases []impl.Case
		books impl.Ledger
	}{
		{"auth aZ09!~_-;=., 7 392 1000", 9000, []impl.Auth{a}, nil, ledger()},
		{"day 9003", 9003, []impl.Auth{a}, nil, ledger()},
		{"auth 000000000009 7 392 1000", 9003, []impl.Auth{a, late}, nil, ledger()},
		{"pay 7 3 392 1100", 9003, []impl.Auth{a, used(late)}, []impl.Case{c}, ledger(line(3, 392, 1100), line(7, 392, -1100))},
		{"act 0 ask 0 0", 9003, []impl.Auth{a, used(late)}, []impl.Case{asked}, ledger(line(3, 392, 1100), line(7, 392, -1100))},
		{"act 0 charge 600 4831", 9003, []impl.Auth{a, used(late)}, []impl.Case{charged}, ledger(line(3, 392, 500), line(7, 392, -500))},
		{"day 9007", 9007, []impl.Auth{a}, []impl.Case{charged}, ledger(line(3, 392, 500), line(7, 392, -500))},
		{"day 9008", 9008, nil, []impl.Case{charged}, ledger(line(3, 392, 500), line(7, 392, -500))},
		{"day 80000", 80000, nil, []impl.Case{charged}, ledger(line(3, 392, 500), line(7, 392, -500))},
	}
	var log []string
	for _, x := range steps {
		next, code := impl.BookDo(b, x.line)
		log = append(log, x.line)
		want := impl.Book{Today: x.today, Off: []int{9001, 9005}, Auths: x.auths, Cases: x.cases, Ledger: x.books, Log: log}
		if code != 0 || !sameBook(next, want) {
			t.Fatalf("%q: %d, %v, want %v", x.line, code, next, want)
		}
		b = next
	}
}

// startLines lead to a book in which each of the four kinds of lines may be done.
var startLines = []string{
	"auth 000000000001 1 840 500", "pay 1 4 840 500", "auth 000000000002 2 978 700", "pay 2 5 978 700", "auth 000000000003 1 840 900",
}

// goodLines may each be done to the book of startLines.
var goodLines = []string{
	"day 9001", "day 80000", "auth 000000000004 1 840 500", "auth 000000000007 9999 392 100000000000",
	"pay 1 4 840 900", "pay 1 9998 840 990", "pay 1 2 840 1", "act 0 ask 0 0", "act 1 ask 0 0", "act 0 charge 500 4855", "act 1 charge 1 4831", "act 1 close 0 0",
	"act 0 ask 7 999999999999999", "act 0 close 500 4837",
}

func startBook(t *testing.T) *journal {
	t.Helper()
	j := newJournal(t, 9000, nil)
	j.must(t, startLines...)
	return j
}

func refuses(t *testing.T, b impl.Book, line string, want int) {
	t.Helper()
	if got, code := askBookDo(t, b, line); code != want || !sameBook(got, b) {
		t.Errorf("%q to %s: %d, want %d", line, shortBook(b), code, want)
	}
}

func TestGoodLines(t *testing.T) {
	b := startBook(t).book
	for _, line := range goodLines {
		if _, code := askBookDo(t, b, line); code != 0 {
			t.Errorf("%q: %d", line, code)
		}
	}
}

var goodNumbers = []string{"0", "1", "9", "10", "100", "840", "9000", "80001", "123456789012345", "100000000000000", "999999999999999"}

var noNumbers = []string{
	"", "00", "01", "00840", "000000000000000", "000000000000001", "012345678901234", "0123456789012345",
	"1000000000000000", "9999999999999999", "1234567890123456", "9223372036854775807", "9223372036854775808", "18446744073709551616", "18446744073709552456",
	"100000000000000000", "1000000000000000000", strings.Repeat("9", 300), strings.Repeat("0", 300), strings.Repeat("0", 300) + "1",
	"-0", "-1", "+0", "+1", "-999999999999999", "--1", "1-", "1+", "-", "+", "1.", "1.0", ".1", "1,0", "1e3", "1E3", "0x1", "0b1", "0o7", "1_0", "_1", "1_",
	"a", "x", "1a", "a1", "9:", "/0", "1\x00", "\x001", "1\n", "\n1", "1\r", "1\t", "\t1", "\xff", "1\xff", "\uff11", "\u0661", "\u00b2", "1\u00a0", "\u00a01", "NaN", "Inf", "nil",
}

// A number stands in each of these at each place that is not told.
var numberPlaces = []string{
	"day #", "auth 000000000004 # 840 500", "auth 000000000004 1 # 500", "auth 000000000004 1 840 #",
	"pay # 4 840 900", "pay 1 # 840 900", "pay 1 4 # 900", "pay 1 4 840 #",
	"act # ask 0 0", "act 0 ask # 0", "act 0 ask 0 #", "act # charge 500 4855", "act 0 charge # 4855", "act 0 charge 500 #", "act 7 rule # 0",
}

func TestNumbersOfLines(t *testing.T) {
	b := startBook(t).book
	for _, form := range numberPlaces {
		for _, number := range goodNumbers {
			if _, code := askBookDo(t, b, strings.Replace(form, "#", number, 1)); code == impl.BookLine {
				t.Errorf("%s as %q is no line", number, form)
			}
		}
		for _, number := range noNumbers {
			refuses(t, b, strings.Replace(form, "#", number, 1), impl.BookLine)
		}
	}
	// The codes of numbers at their ends, by hand.
	byHand := map[string]int{
		"day 0": 4, "day 8999": 4, "day 9000": 4, "day 9001": 0, "day 79999": 0, "day 80000": 0, "day 80001": 4, "day 999999999999999": 4,
		"auth 000000000004 0 840 500": 3, "auth 000000000004 1 840 500": 0, "auth 000000000004 9999 840 500": 0, "auth 000000000004 10000 840 500": 3,
		"auth 000000000004 999999999999999 840 500": 3, "auth 000000000004 1 0 500": 3, "auth 000000000004 1 36 500": 0, "auth 000000000004 1 841 500": 3,
		"auth 000000000004 1 999999999999999 500": 3, "auth 000000000004 1 840 0": 3, "auth 000000000004 1 840 1": 0, "auth 000000000004 1 840 100000000000": 0,
		"auth 000000000004 1 840 100000000001": 3, "auth 000000000004 1 840 999999999999999": 3,
		"pay 0 4 840 900": 3, "pay 2 4 840 900": 3, "pay 1 0 840 900": 5, "pay 1 9998 840 900": 0, "pay 1 9999 840 900": 5, "pay 1 10000 840 900": 5, "pay 1 1 840 900": 5,
		"pay 1 999999999999999 840 900": 5, "pay 1 4 0 900": 3, "pay 1 4 978 900": 3, "pay 1 4 840 0": 3, "pay 1 4 840 1": 0, "pay 1 4 840 990": 0, "pay 1 4 840 991": 3,
		"pay 1 4 840 999999999999999": 3,
		"act 0 ask 0 0":               0, "act 1 ask 0 0": 0, "act 2 ask 0 0": 5, "act 999999999999999 ask 0 0": 5,
		"act 0 ask 999999999999999 999999999999999": 0, "act 0 charge 0 4855": 12, "act 0 charge 500 4855": 0, "act 0 charge 501 4855": 12, "act 0 charge 499 4855": 12,
		"act 0 charge 499 4853": 0, "act 0 charge 500 0": 13, "act 0 charge 500 4837": 13, "act 0 charge 500 999999999999999": 13, "act 0 charge 999999999999999 4853": 12,
		"act 0 answer 500 0": 11, "act 0 expire 0 0": 11, "act 0 close 0 0": 0,
	}
	for line, want := range byHand {
		if _, code := askBookDo(t, b, line); code != want {
			t.Errorf("%q: %d, want %d", line, code, want)
		}
	}
}

// badWords are what becomes of a line that is good where its words are not as they must be.
func badWords(line string) []string {
	words := strings.Split(line, " ")
	list := []string{
		" " + line, line + " ", " " + line + " ", "\t" + line, line + "\t", line + "\n", line + "\r", line + "\x00", "\ufeff" + line, line + "\n" + line, line + " " + line, line + line,
		strings.ReplaceAll(line, " ", ""), strings.ReplaceAll(line, " ", "  "), strings.ReplaceAll(line, " ", "\t"), strings.ReplaceAll(line, " ", "\n"), strings.ReplaceAll(line, " ", "\u00a0"),
		strings.ReplaceAll(line, " ", "\x00"), strings.ReplaceAll(line, " ", ","), strings.ReplaceAll(line, " ", "_"), strings.ToUpper(words[0]) + line[len(words[0]):],
		words[0], words[0] + " ", line + " 0", line + " 0 0", line + " x", "0 " + line, "x " + line, strings.Join(words[1:], " "), "\"" + line + "\"", "#" + line, line + ";", line + ".",
	}
	for i := range words {
		list = append(list, strings.Join(slices.Delete(slices.Clone(words), i, i+1), " "))
		list = append(list, strings.Join(slices.Insert(slices.Clone(words), i, ""), " "))
		list = append(list, strings.Join(slices.Insert(slices.Clone(words), i, "", ""), " "))
		if i > 0 {
			list = append(list, strings.Join(slices.Insert(slices.Clone(words), i, "0"), " "))
			list = append(list, strings.Join(slices.Insert(slices.Clone(words), i, words[i]), " "))
		}
	}
	return list
}

func TestWordsOfLines(t *testing.T) {
	b := startBook(t).book
	for _, line := range goodLines {
		for _, bad := range badWords(line) {
			refuses(t, b, bad, impl.BookLine)
		}
	}
	none := []string{
		"", " ", "  ", "     ", "\n", "\x00", "0", "x", "day", "auth", "pay", "act", "day ", "act 0", "act 0 ask", "act 0 ask 0", "act ask 0 0 0", "ask 0 0 0", "dayy 9001", "da 9001",
		"Day 9001", "DAY 9001", "days 9001", "auths 000000000004 1 840 500", "payment 1 4 840 900", "acts 0 ask 0 0", "today 9001", "date 9001", "run", "books", "case 0", "due", "expire 0",
		"auth  1 840 500", "auth 1 840 500", "auth 000000000004 1 840", "auth 000000000004 1 840 500 0", "auth 0000 00000004 1 840 500", "auth 000000000004  1 840 500", "pay 1 4 900", "pay 000000000001 1 4 840 900",
		"act 0 0 0 0", "act 0 2 500 4855", "act 0 charge 500 none", "act 0 charge 5.00 4855", "act 0  0 0", "act 0 ask  0", "day 2024-08-23", strings.Repeat(" ", 5000), strings.Repeat("x ", 5000),
	}
	for _, line := range none {
		refuses(t, b, line, impl.BookLine)
	}
}

// The word of an auth may be of any bytes but blanks: what is no Ref is refused by AuthAdd, not as a line.
func TestRefsOfLines(t *testing.T) {
	b := startBook(t).book
	refused := []string{"a", "00000000004", "0000000000004", "0", "-1", "auth", "00000000000\n", "\t00000000004", "00000\x00000004", "00000000000\xff", "0000000000\u00e4", "\x7f00000000004", strings.Repeat("9", 24), strings.Repeat("r", 9999)}
	for _, ref := range refused {
		refuses(t, b, "auth "+ref+" 1 840 500", impl.BookAuth)
	}
	for _, ref := range []string{"000000000001", "000000000002", "000000000003"} {
		refuses(t, b, "auth "+ref+" 3 48 1", impl.BookAuth)
	}
	for _, ref := range []string{"aZ09!~_-;=.,", "000000000000", "999999999999", "------------", "day_pay_act_", "\"\"\"\"\"\"\"\"\"\"\"\"", "%%%%%%%%%%%%"} {
		next, code := askBookDo(t, b, "auth "+ref+" 3 48 1")
		if want := (impl.Auth{Ref: ref, Issuer: 3, Cur: 48, Amount: 1, Day: 9000}); code != 0 || next.Auths[len(next.Auths)-1] != want {
			t.Errorf("auth of %q: %d, %v", ref, code, next.Auths)
		}
	}
	for b256 := range 256 {
		ref := "ABCDE" + oneByte(b256) + "GHIJKL"
		want := impl.BookAuth
		if b256 == ' ' {
			want = impl.BookLine
		} else if within(b256, 33, 126) {
			want = impl.BookDone
		}
		if _, code := askBookDo(t, b, "auth "+ref+" 3 48 1"); code != want {
			t.Errorf("auth of %q: %d, want %d", ref, code, want)
		}
	}
}

func TestActWordsOfLines(t *testing.T) {
	b := startBook(t).book
	words := map[string]int{"ask": 0, "give": 11, "charge": 13, "answer": 11, "second": 11, "accept": 11, "refuse": 11, "rule": 11, "expire": 11, "close": 0}
	for word, want := range words {
		if _, code := askBookDo(t, b, "act 0 "+word+" 0 0"); code != want {
			t.Errorf("%s: %d, want %d", word, code, want)
		}
		for _, near := range nearTexts(word) {
			if near != word {
				refuses(t, b, "act 0 "+near+" 0 0", impl.BookLine)
				refuses(t, b, "act 99 "+near+" 0 0", impl.BookLine)
			}
		}
	}
	for _, word := range []string{"", "dance", "open", "asked", "given", "charged", "closed", "rules", "ruling", "expired", "pay", "day", "0", "8", "-1", "askgive", "ask,give"} {
		refuses(t, b, "act 0 "+word+" 0 0", impl.BookLine)
	}
}

// Each act is told by its own word: in each state, just those are done that may be.
func TestActsByTheirWords(t *testing.T) {
	for state := range 8 {
		for kind, name := range actNames {
			for _, today := range []int{44, 45} {
				b := impl.Book{Today: today, Cases: []impl.Case{anyCase(0, 0, 0, -1), anyCase(state, 7000, 3000, 44)}, Ledger: ledger(line(1, 840, -17000), line(4, 840, 17000))}
				want, _, wantCode := impl.CaseDo(b.Cases[1], act(kind, 3000, 4853), today, nil)
				next, code := askBookDo(t, b, actLine(1, name, 3000, 4853))
				if next.Cases[1] != want || next.Cases[0] != b.Cases[0] || code != wantCode+10*min(wantCode, 1) {
					t.Errorf("%s in %s on day %d: %d, %v, want %d, %v", name, stateWords[state], today, code, next.Cases[1], wantCode, want)
				}
			}
		}
	}
}

func TestEveryByteOfALine(t *testing.T) {
	b := startBook(t).book
	for _, line := range goodLines {
		for at := range len(line) + 1 {
			for b256 := range 256 {
				askBookDo(t, b, line[:at]+oneByte(b256)+line[at:])
				if at < len(line) {
					askBookDo(t, b, line[:at]+oneByte(b256)+line[at+1:])
				}
			}
			for end := at + 1; end <= len(line); end++ {
				askBookDo(t, b, line[:at]+line[end:])
				askBookDo(t, b, line[at:end])
			}
			if t.Failed() {
				return
			}
		}
	}
}

func TestDaysOfABook(t *testing.T) {
	for _, today := range []int{0, 1, 7, 8, 9000, lastDay - 2, lastDay - 1, lastDay} {
		j := newJournal(t, today, nil)
		j.must(t, authLine(1, 1, 840, 500), authLine(2, 1, 840, 600), payLine(1, 4, 840, 600))
		for _, day := range slices.Concat(edgeDays, []int{today - 1, today, today + 1, today + 6, today + 7, today + 8, today + 9}) {
			if day < 0 {
				continue
			}
			want := impl.BookLine
			switch {
			case day > 999999999999999:
			case day <= today || day > lastDay:
				want = impl.BookDay
			default:
				want = impl.BookDone
			}
			next, code := askBookDo(t, j.book, dayLine(day))
			if code != want {
				t.Errorf("day %d on day %d: %d, want %d", day, today, code, want)
			}
			left := 0
			if day <= today+7 {
				left = 1
			}
			if code == 0 && (next.Today != day || len(next.Auths) != left || !slices.Equal(next.Cases, j.book.Cases) || !sameLedger(next.Ledger, j.book.Ledger)) {
				t.Errorf("day %d on day %d makes %s", day, today, shortBook(next))
			}
		}
	}
	// Nothing is behind the last day, and the book goes on there all the same.
	j := newJournal(t, lastDay, nil)
	for _, day := range []int{0, lastDay - 1, lastDay, lastDay + 1} {
		refuses(t, j.book, dayLine(day), impl.BookDay)
	}
	j.must(t, authLine(1, 1, 840, 500), payLine(1, 4, 840, 500), "act 0 charge 500 4855", "act 0 answer 500 0", "act 0 second 500 0", "act 0 refuse 0 0", "act 0 rule 500 0")
	j.askReadAgain(t, nil)
}

func closedCases(n int) []impl.Case {
	var list []impl.Case
	for range n {
		list = append(list, anyCase(7, 0, 0, -1))
	}
	return list
}

// dayLog are n lines as a log, from whatever book they came.
func dayLog(n int) []string {
	var list []string
	for i := range n {
		list = append(list, dayLine(i+1))
	}
	return list
}

// Which code counts where several reasons apply: each set of reasons is tried.
func TestOrderOfCodesOfPay(t *testing.T) {
	for reasons := range 64 {
		has := func(i int) bool { return reasons>>i&1 == 1 }
		b := impl.Book{Today: 9000, Auths: []impl.Auth{anyAuth(1, 1000, 9000)}, Cases: closedCases(mostCases - 1), Log: dayLog(mostLog - 1)}
		pay := "pay 1 4 840 1000"
		want := 0
		if has(5) {
			b.Ledger, want = ledger(line(1, 840, -most), line(2, 840, most)), impl.BookMoney
		}
		if has(4) {
			pay, want = "pay 1 9999 840 1000", impl.BookCase
		}
		if has(3) {
			b.Cases, want = closedCases(mostCases), impl.BookFull
		}
		if has(2) {
			b.Auths, want = []impl.Auth{used(anyAuth(1, 1000, 9000))}, impl.BookAuth
		}
		if has(1) {
			pay, want = pay+" ", impl.BookLine
		}
		if has(0) {
			b.Log, want = dayLog(mostLog), impl.BookFull
		}
		if _, code := askBookDo(t, b, pay); code != want {
			t.Errorf("reasons %06b: %d, want %d", reasons, code, want)
		}
	}
}

func TestOrderOfCodesOfAct(t *testing.T) {
	refused := []struct {
		c    impl.Case
		code int
	}{
		{withReason(anyCase(0, 0, 0, -1), 1), impl.ActDay},
		{anyCase(3, 10000, 10000, 9050), impl.ActState},
		{withFees(anyCase(0, 0, 0, -1), 1), impl.ActTime},
	}
	for reasons := range 32 {
		has := func(i int) bool { return reasons>>i&1 == 1 }
		for i, x := range refused {
			open := anyCase(0, 0, 0, -1)
			open.Start = 9000
			b := impl.Book{Today: 9000, Cases: []impl.Case{open}, Log: dayLog(mostLog - 1)}
			number, doing, want := "0", "charge 10000 4855", 0
			if has(4) {
				b.Ledger, want = ledger(line(1, 840, most), line(2, 840, -most)), impl.BookMoney
			}
			if has(3) {
				b.Cases[0], want = x.c, 10+x.code
			}
			if has(2) {
				number, want = "1", impl.BookCase
			}
			if has(1) {
				doing, want = "dance 10000 4855", impl.BookLine
			}
			if has(0) {
				b.Log, want = dayLog(mostLog), impl.BookFull
			}
			if _, code := askBookDo(t, b, "act "+number+" "+doing); code != want {
				t.Errorf("reasons %05b and case %d: %d, want %d", reasons, i, code, want)
			}
		}
	}
	// The codes of acts that their amount or reason refuses come ahead of the money too.
	open := anyCase(0, 0, 0, -1)
	for _, books := range []impl.Ledger{{}, ledger(line(1, 840, most), line(2, 840, -most)), ledger(line(1, 840, 5))} {
		b := impl.Book{Today: 2, Cases: []impl.Case{open}, Ledger: books}
		for line, want := range map[string]int{"act 0 charge 10001 4855": 12, "act 0 charge 0 4855": 12, "act 0 charge 10000 4837": 13, "act 0 charge 10000 1": 13, "act 0 give 0 0": 11} {
			refuses(t, b, line, want)
		}
	}
}

func TestOrderOfCodesOfDayAndAuth(t *testing.T) {
	for reasons := range 8 {
		has := func(i int) bool { return reasons>>i&1 == 1 }
		for _, x := range []struct {
			good, refused string
			code          int
		}{
			{"day 9001", "day 9000", impl.BookDay},
			{"day 9001", "day 80001", impl.BookDay},
			{"auth 000000000001 1 840 500", "auth short 1 840 500", impl.BookAuth},
			{"auth 000000000001 1 840 500", "auth " + refOf(1) + " 1 840 500", impl.BookAuth},
			{"auth 000000000001 1 840 500", "auth 000000000001 1 841 500", impl.BookAuth},
		} {
			b := impl.Book{Today: 9000, Auths: []impl.Auth{anyAuth(1, 500, 9000)}, Log: dayLog(mostLog - 1)}
			line, want := x.good, 0
			if has(2) {
				line, want = x.refused, x.code
			}
			if has(1) {
				line, want = line+"x", impl.BookLine
			}
			if has(0) {
				b.Log, want = dayLog(mostLog), impl.BookFull
			}
			if _, code := askBookDo(t, b, line); code != want {
				t.Errorf("%q: %d, want %d", line, code, want)
			}
		}
	}
}

func TestFullLog(t *testing.T) {
	j := newJournal(t, 0, nil)
	j.must(t, authLine(1, 1, 840, 500), payLine(1, 4, 840, 500), "act 0 ask 0 0")
	for len(j.book.Log) < mostLog-1 {
		j.must(t, dayLine(j.book.Today+1))
	}
	// One more line is done, whichever it is, and then none.
	refuses(t, j.book, "act 0 charge 500 4837", 10+impl.ActTime)
	refuses(t, j.book, "nonsense", impl.BookLine)
	for _, line := range []string{dayLine(700), authLine(2, 1, 840, 500), "act 0 expire 0 0"} {
		next, code := askBookDo(t, j.book, line)
		if code != 0 {
			t.Errorf("%q as the last line: %d", line, code)
		}
		for _, other := range []string{"day 800", "day 0", "auth 000000000009 1 840 500", "pay 1 4 840 500", "act 0 expire 0 0", "act 7 ask 0 0", "", "x", " day 800", line} {
			refuses(t, next, other, impl.BookFull)
		}
	}
	j.must(t, dayLine(700))
	full := j.book
	j.askReadAgain(t, []int{0, 1, 100, 3000, 3001, 3002, 3003, 3004, 3005, 3006, 3007, 3008})
	for _, more := range []int{0, 1, 2, 100} {
		b := cloneBook(full)
		b.Log = append(b.Log, dayLog(more)...)
		for _, line := range []string{"day 800", "auth 000000000009 1 840 500", "act 0 expire 0 0", "nonsense"} {
			refuses(t, b, line, impl.BookFull)
		}
		if got, done := askExpire(t, b); done != 0 || !sameBook(got, b) {
			t.Errorf("with %d lines %d are done", len(b.Log), done)
		}
		askBookText(t, b)
		if open, due := askOpenAndDue(t, b); len(open) != 1 || len(due) != 1 {
			t.Errorf("with %d lines %v are open and %v due", len(b.Log), open, due)
		}
	}
}

func TestLinesBeyondTheLog(t *testing.T) {
	for _, n := range []int{mostLog - 1, mostLog, mostLog + 1, mostLog + 2, 5000} {
		want := min(n, mostLog)
		lines := dayLog(n)
		if b, done := askBookAll(t, 0, nil, lines); done != want || b.Today != want || !slices.Equal(b.Log, lines[:want]) {
			t.Errorf("of %d lines %d are done, today is %d", n, done, b.Today)
		}
		if b, done := askBookRead(t, 0, nil, strings.Join(lines, "\n")+"\n"); done != want || b.Today != want {
			t.Errorf("of a text of %d lines %d are done, today is %d", n, done, b.Today)
		}
		if _, done := askBookRead(t, 0, nil, strings.Join(lines, "\n")); done != min(n-1, mostLog) {
			t.Errorf("of a text of %d lines without its last newline %d are done", n, done)
		}
	}
}

// fillCases begins cases of one unit, from issuer 1 to acquirers of their own, until there are n.
func (j *journal) fillCases(t *testing.T, n int) {
	t.Helper()
	for len(j.book.Cases) < n {
		if len(j.book.Auths) == mostAuths {
			j.must(t, dayLine(j.book.Today+1))
		}
		k := len(j.book.Cases)
		j.must(t, authLine(k, 1+k, 840, 1), payLine(1+k, 9000-k, 840, 1))
	}
}

func TestFullOfCases(t *testing.T) {
	j := newJournal(t, 9000, nil)
	j.fillCases(t, mostCases-1)
	j.must(t, dayLine(j.book.Today+1), authLine(5000, 7, 978, 500), authLine(5001, 7, 978, 500))
	refuses(t, j.book, "pay 7 8 978 551", impl.BookAuth)
	refuses(t, j.book, "pay 7 7 978 500", impl.BookCase)
	j.must(t, "pay 7 8 978 500")
	if len(j.book.Cases) != mostCases {
		t.Fatal("there are", len(j.book.Cases), "cases")
	}
	refuses(t, j.book, "pay 7 8 978 500", impl.BookFull)
	refuses(t, j.book, "pay 7 7 978 500", impl.BookFull)
	refuses(t, j.book, "pay 7 8 978 551", impl.BookAuth)
	refuses(t, j.book, "pay 6 8 978 500", impl.BookAuth)
	// The others go on, and no case makes room.
	j.must(t, "act 149 close 0 0", "act 0 ask 0 0", authLine(5002, 7, 978, 500), dayLine(j.book.Today+1), "act 148 charge 1 4855")
	refuses(t, j.book, "pay 7 8 978 500", impl.BookFull)
	refuses(t, j.book, "act 150 ask 0 0", impl.BookCase)
	refuses(t, j.book, "act 149 ask 0 0", 10+impl.ActState)
	j.askReadAgain(t, []int{0, 5, 4000, 4001, 4002, 4003, 4004, 4005})
	for _, more := range []int{1, 2, 100} {
		b := cloneBook(j.book)
		b.Cases = append(b.Cases, closedCases(more)...)
		refuses(t, b, "pay 7 8 978 500", impl.BookFull)
		refuses(t, b, fmt.Sprintf("act %d ask 0 0", mostCases+more), impl.BookCase)
		refuses(t, b, fmt.Sprintf("act %d ask 0 0", mostCases+more-1), 10+impl.ActState)
		b.Cases[mostCases+more-1] = anyCase(0, 0, 0, -1)
		if next, code := askBookDo(t, b, fmt.Sprintf("act %d ask 0 0", mostCases+more-1)); code != 0 || next.Cases[mostCases+more-1].State != 1 {
			t.Errorf("of %d cases the last is not asked for: %d", len(b.Cases), code)
		}
	}
}

func TestNumbersOfCasesInLines(t *testing.T) {
	j := newJournal(t, 9000, nil)
	refuses(t, j.book, "act 0 ask 0 0", impl.BookCase)
	for n := range 20 {
		j.fillCases(t, n+1)
		refuses(t, j.book, actLine(n+1, "ask", 0, 0), impl.BookCase)
		refuses(t, j.book, actLine(n+2, "ask", 0, 0), impl.BookCase)
		for k := range n + 1 {
			next, code := askBookDo(t, j.book, actLine(k, "close", 0, 0))
			for i, c := range next.Cases {
				if code != 0 || (c.State == 7) != (i == k) {
					t.Errorf("of %d cases, %d is closed: %d, %s", n+1, k, code, statesOf(next))
				}
			}
		}
	}
}

// Ten payments of the greatest amount are what an account can take, and an eleventh is not.
func TestMoneyThatAccountsCannotTake(t *testing.T) {
	j := newJournal(t, 9000, nil)
	for n := range 12 {
		j.must(t, authLine(n, 1, 840, mostPaid), authLine(100+n, 2+n, 840, mostPaid))
	}
	for range 10 {
		j.must(t, payLine(1, 20, 840, mostPaid))
	}
	refuses(t, j.book, payLine(1, 20, 840, mostPaid), impl.BookMoney)
	refuses(t, j.book, payLine(1, 20, 840, 1), impl.BookMoney)
	refuses(t, j.book, payLine(1, 21, 840, 1), impl.BookMoney)
	refuses(t, j.book, payLine(3, 20, 840, mostPaid), impl.BookMoney)
	refuses(t, j.book, payLine(1, 1, 840, 1), impl.BookCase)
	refuses(t, j.book, payLine(1, 20, 840, mostPaid+mostPaid/10), impl.BookCase)
	refuses(t, j.book, payLine(1, 20, 840, mostPaid+mostPaid/10+1), impl.BookAuth)
	// What was refused has not used the authorization.
	j.must(t, actLine(0, "charge", mostPaid, 4855), payLine(1, 20, 840, mostPaid))
	refuses(t, j.book, actLine(0, "answer", 1, 0), impl.BookMoney)
	refuses(t, j.book, actLine(0, "answer", 0, 0), 10+impl.ActAmount)
	refuses(t, j.book, actLine(11, "answer", 1, 0), impl.BookCase)
	j.must(t, actLine(1, "charge", mostPaid, 4855), actLine(0, "answer", mostPaid, 0), actLine(0, "second", mostPaid, 0), actLine(0, "refuse", 0, 0))
	// Ruled for nothing, the issuer would have to pay the fee too.
	refuses(t, j.book, actLine(0, "rule", 0, 0), impl.BookMoney)
	refuses(t, j.book, actLine(0, "rule", 1, 0), impl.BookMoney)
	refuses(t, j.book, actLine(0, "rule", theFee-1, 0), impl.BookMoney)
	j.must(t, actLine(0, "rule", theFee, 0))
	if got := impl.BalanceOf(j.book.Ledger, 1, 840); got != -most || impl.BalanceOf(j.book.Ledger, theHouse, 840) != theFee {
		t.Errorf("account 1 has %d", got)
	}
	j.askReadAgain(t, nil)
}

func TestFullOfAuths(t *testing.T) {
	j := newJournal(t, 9000, nil)
	for n := range mostAuths {
		j.must(t, authLine(n, 1, 840, 500+n))
	}
	refuses(t, j.book, authLine(mostAuths, 1, 840, 500), impl.BookAuth)
	j.must(t, payLine(1, 4, 840, 599))
	// One that is used has its place until the next day.
	refuses(t, j.book, authLine(mostAuths, 1, 840, 500), impl.BookAuth)
	j.must(t, dayLine(9001), authLine(mostAuths, 1, 840, 500))
	refuses(t, j.book, authLine(mostAuths+1, 1, 840, 500), impl.BookAuth)
	j.must(t, j.daysUpTo(9007)...)
	refuses(t, j.book, authLine(mostAuths+1, 1, 840, 500), impl.BookAuth)
	j.must(t, dayLine(9008))
	if len(j.book.Auths) != 1 {
		t.Errorf("on day 9008 there are %d", len(j.book.Auths))
	}
	// The Ref of one that is gone may come again.
	j.must(t, authLine(0, 1, 840, 500))
	j.askReadAgain(t, nil)
}

// daysUpTo are the lines that lead to a day, one day after the other.
func (j *journal) daysUpTo(day int) []string {
	var lines []string
	for d := j.book.Today + 1; d <= day; d++ {
		lines = append(lines, dayLine(d))
	}
	return lines
}

// The nearest authorization is used, on the day of the book, and once.
func TestPayUsesTheNearest(t *testing.T) {
	j := newJournal(t, 9000, nil)
	j.must(t, authLine(1, 1, 840, 1000), dayLine(9002), authLine(2, 1, 840, 1000), authLine(3, 1, 840, 990), authLine(4, 1, 978, 1000), authLine(5, 2, 840, 1000))
	for _, want := range []struct {
		amount int
		used   string
	}{{1000, "01000"}, {1000, "11000"}, {1000, "11100"}} {
		j.must(t, payLine(1, 4, 840, want.amount))
		marks := ""
		for _, a := range j.book.Auths {
			marks += map[bool]string{false: "0", true: "1"}[a.Used]
		}
		if marks != want.used {
			t.Errorf("used are %s, want %s", marks, want.used)
		}
	}
	refuses(t, j.book, payLine(1, 4, 840, 1000), impl.BookAuth)
	if c := j.book.Cases[0]; c.Start != 9002 || c.State != 0 || c.Due != -1 {
		t.Error("the case is", c)
	}
}

func TestBookAll(t *testing.T) {
	for n := range len(handLines) + 1 {
		var lines []string
		for _, x := range handLines[:n] {
			lines = append(lines, x.line)
		}
		// The third line is the first that is refused.
		if _, done := askBookAll(t, 9000, nil, lines); done != min(n, 2) {
			t.Errorf("of the first %d lines %d are done", n, done)
		}
	}
	good := handBook(t)
	for n := range len(good.book.Log) + 1 {
		if b, done := askBookAll(t, 9000, nil, good.book.Log[:n]); done != n || !sameBook(b, good.past[n]) {
			t.Errorf("of %d lines %d are done: %s", n, done, shortBook(b))
		}
		// A line that is refused ends it, whatever stands behind.
		for _, bad := range []string{"", "x", "day 9000", "act 9 ask 0 0", " " + good.book.Log[0], good.book.Log[0] + "\n"} {
			lines := slices.Concat(good.book.Log[:n], []string{bad}, good.book.Log[n:])
			if b, done := askBookAll(t, 9000, nil, lines); done != n || !sameBook(b, good.past[n]) {
				t.Errorf("of %d lines and %q %d are done: %s", n, bad, done, shortBook(b))
			}
		}
	}
	for _, lines := range [][]string{nil, {}, {""}, {"", "day 9001"}, {"day 9001", ""}, {"day 9001", "day 9001"}, {"day 9001\nday 9002"}, {"day 9002", "day 9001", "day 9003"}} {
		askBookAll(t, 9000, nil, lines)
	}
}

func TestBookAllWithoutAStart(t *testing.T) {
	lines := []string{"day 9001", "auth 000000000001 1 840 500"}
	text := "day 9001\nauth 000000000001 1 840 500\n"
	for _, day := range edgeDays {
		want := -1
		if isDay(day) {
			want = 0
			if day <= 9000 {
				want = 2
			}
		}
		if b, n := askBookAll(t, day, nil, lines); n != want || n == -1 && !isZeroBook(b) {
			t.Errorf("BookAll from day %d: %d, %s", day, n, shortBook(b))
		}
		if b, n := askBookRead(t, day, nil, text); n != want || n == -1 && !isZeroBook(b) {
			t.Errorf("BookRead from day %d: %d, %s", day, n, shortBook(b))
		}
	}
	for _, off := range badOffLists() {
		for _, few := range [][]string{nil, lines} {
			if b, n := askBookAll(t, 9000, off, few); n != -1 || !isZeroBook(b) {
				t.Errorf("BookAll with %s off: %d, %s", short(off), n, shortBook(b))
			}
		}
		for _, few := range []string{"", "x", text} {
			if b, n := askBookRead(t, 9000, off, few); n != -1 || !isZeroBook(b) {
				t.Errorf("BookRead with %s off: %d, %s", short(off), n, shortBook(b))
			}
		}
	}
	for _, off := range goodOffLists() {
		if b, n := askBookAll(t, 9000, off, lines); n != 2 || !slices.Equal(b.Off, off) {
			t.Errorf("BookAll with %s off: %d, %s", short(off), n, shortBook(b))
		}
	}
}

func TestBookText(t *testing.T) {
	for _, x := range []struct {
		log  []string
		want string
	}{
		{nil, ""},
		{[]string{}, ""},
		{[]string{""}, "\n"},
		{[]string{"", ""}, "\n\n"},
		{[]string{"day 9001"}, "day 9001\n"},
		{[]string{"day 9001", "day 9002"}, "day 9001\nday 9002\n"},
		{[]string{"x\n", "\n"}, "x\n\n\n\n"},
		{[]string{"\x00\xff", " ", "\u00e4"}, "\x00\xff\n \n\u00e4\n"},
	} {
		// Nothing but the log is told.
		for _, b := range []impl.Book{{Log: x.log}, {Today: -5, Off: []int{3, 1}, Cases: closedCases(3), Ledger: ledger(line(0, 0, 0)), Log: x.log}} {
			if got := askBookText(t, b); got != x.want {
				t.Errorf("BookText of %q is %q, want %q", x.log, got, x.want)
			}
		}
	}
	for _, n := range []int{mostLog - 1, mostLog, mostLog + 1, 2000} {
		if got := askBookText(t, impl.Book{Log: dayLog(n)}); strings.Count(got, "\n") != n {
			t.Errorf("of %d lines %d are told", n, strings.Count(got, "\n"))
		}
	}
}

func TestBookReadNamed(t *testing.T) {
	for _, x := range []struct {
		text  string
		n     int
		today int
	}{
		{"", 0, 9000},
		{"\n", 0, 9000},
		{"day 9001", 0, 9000},
		{"day 9001\n", 1, 9001},
		{"\nday 9001\n", 0, 9000},
		{"day 9001\n\n", 1, 9001},
		{"day 9001\n\nday 9002\n", 1, 9001},
		{"day 9001\nday 9002", 1, 9001},
		{"day 9001\nday 9002\n", 2, 9002},
		{"day 9001\nday 9002\nday 9", 2, 9002},
		{"day 9001\nday 9002\nx", 2, 9002},
		{"day 9001\nx\nday 9002\n", 1, 9001},
		{"day 9001\r\nday 9002\r\n", 0, 9000},
		{"day 9001\rday 9002\n", 0, 9000},
		{"day 9001 \n", 0, 9000},
		{" day 9001\n", 0, 9000},
		{"day 9001\n day 9002\n", 1, 9001},
		{"day 9001\nday 9001\nday 9002\n", 1, 9001},
		{"day 9001\x00\n", 0, 9000},
		{"\ufeffday 9001\n", 0, 9000},
		{"day 9001\u2028day 9002\n", 0, 9000},
		{"day 9001\vday 9002\n", 0, 9000},
		{"day 80000\nday 80001\n", 1, 80000},
		{strings.Repeat("\n", 5000), 0, 9000},
		{strings.Repeat("x", 50000), 0, 9000},
	} {
		if b, n := askBookRead(t, 9000, nil, x.text); n != x.n || b.Today != x.today || len(b.Log) != n {
			t.Errorf("BookRead of %.80q: %d, %s, want %d and day %d", x.text, n, shortBook(b), x.n, x.today)
		}
	}
}

// A text that is written over by other bytes anywhere is read up to there at most as the second reckoning does.
func TestBookReadOfOtherTexts(t *testing.T) {
	text := impl.BookText(handBook(t).book)
	for at := range len(text) {
		for _, b256 := range []int{0, 10, 13, 32, 48, 57, 97, 255} {
			askBookRead(t, 9000, nil, text[:at]+oneByte(b256)+text[at+1:])
			askBookRead(t, 9000, nil, text[:at]+oneByte(b256)+text[at:])
		}
		askBookRead(t, 9000, nil, text[:at]+text[at+1:])
		askBookRead(t, 9000, nil, text[at:])
		if t.Failed() {
			return
		}
	}
}

func TestBookOpenAndDueNamed(t *testing.T) {
	var cases []impl.Case
	for _, due := range []int{9000, 8999, -1} {
		for state := range 8 {
			cases = append(cases, anyCase(state, 7000, 3000, due))
		}
	}
	// What is no case is not closed either; a state that is none is not CaseClosed.
	odd := []impl.Case{{}, {State: -1, Due: 8999}, {State: 8, Due: 9000}, {State: 7, Due: 8999}, {State: 3, Due: lastDay + 1}, {State: 3, Due: leastOfInt}, {State: 3, Due: greatestInt}}
	for _, x := range []struct {
		what  string
		today int
		cases []impl.Case
		open  []int
		due   []int
	}{
		{"none", 9000, nil, nil, nil},
		{"one on its day", 9000, cases[3:4], []int{0}, nil},
		{"one behind it", 9001, cases[3:4], []int{0}, []int{0}},
		{"a closed one", 9001, cases[7:8], nil, nil},
		{"one without a day", 9001, cases[19:20], []int{0}, nil},
		{"all on day 8999", 8999, cases, []int{0, 1, 2, 3, 4, 5, 6, 8, 9, 10, 11, 12, 13, 14, 16, 17, 18, 19, 20, 21, 22}, nil},
		{"all on day 9000", 9000, cases, []int{0, 1, 2, 3, 4, 5, 6, 8, 9, 10, 11, 12, 13, 14, 16, 17, 18, 19, 20, 21, 22}, []int{8, 9, 10, 11, 12, 13, 14}},
		{"all on day 9001", 9001, cases, []int{0, 1, 2, 3, 4, 5, 6, 8, 9, 10, 11, 12, 13, 14, 16, 17, 18, 19, 20, 21, 22}, []int{0, 1, 2, 3, 4, 5, 6, 8, 9, 10, 11, 12, 13, 14}},
		{"odd ones", 9000, odd, []int{0, 1, 2, 4, 5, 6}, []int{0, 1}},
		{"odd ones on no day", -1, odd, []int{0, 1, 2, 4, 5, 6}, nil},
		{"odd ones behind the last day", lastDay + 1, odd, []int{0, 1, 2, 4, 5, 6}, nil},
	} {
		open, due := askOpenAndDue(t, impl.Book{Today: x.today, Cases: x.cases})
		if !slices.Equal(open, x.open) || !slices.Equal(due, x.due) {
			t.Errorf("%s: open %v, due %v, want %v, %v", x.what, open, due, x.open, x.due)
		}
	}
	for _, n := range []int{mostCases, mostCases + 1, 400} {
		b := impl.Book{Today: 9001}
		for range n {
			b.Cases = append(b.Cases, anyCase(4, 7000, 3000, 9000))
		}
		if open, due := askOpenAndDue(t, b); !slices.Equal(open, daysFrom(0, 1, n)) || !slices.Equal(due, open) {
			t.Errorf("of %d cases %d are open and %d due", n, len(open), len(due))
		}
	}
}

// dueBook leads by lines to a case in each state that may run out, and to cases beside them that may not.
func dueBook(t *testing.T) *journal {
	t.Helper()
	j := newJournal(t, 9000, nil)
	for n := range 9 {
		j.must(t, authLine(n, 1+n, 840, 1000+n), payLine(1+n, 20+n, 840, 1000+n))
	}
	j.must(t, "act 1 ask 0 0", "act 2 charge 1002 4855", "act 3 charge 1003 4855", "act 3 answer 1000 0",
		"act 4 charge 1004 4855", "act 4 answer 1004 0", "act 4 second 900 0",
		"act 5 charge 1005 4855", "act 5 answer 1005 0", "act 5 second 901 0", "act 5 refuse 0 0",
		"act 6 close 0 0", "act 7 ask 0 0", "act 7 give 0 0", "act 8 charge 1008 4855", "act 8 answer 1008 0", "act 8 second 1008 0", "act 8 accept 0 0")
	return j
}

func TestBookExpireNamed(t *testing.T) {
	j := dueBook(t)
	if got := statesOf(j.book); got != "open asked charged answered second ruling closed given closed" {
		t.Fatal("the states are", got)
	}
	// The days on which the cases are due last, by hand: 9021 for 4, 9028 for 1, 9042 for 2 and 3, 9084 for 5.
	for _, x := range []struct {
		day    int
		due    []int
		states string
		books  string
	}{
		{9021, nil, "open asked charged answered second ruling closed given closed", ""},
		{9022, []int{4}, "open asked charged answered closed ruling closed given closed", "1 840 -10.00;2 840 -10.01;4 840 -10.00;5 840 -1.04;6 840 -10.05;7 840 -10.06;8 840 -10.07;20 840 10.00;21 840 10.01;23 840 10.00;24 840 1.04;25 840 10.05;26 840 10.06;27 840 10.07"},
		{9028, nil, "open asked charged answered closed ruling closed given closed", ""},
		{9029, []int{1}, "open given charged answered closed ruling closed given closed", ""},
		{9042, nil, "open given charged answered closed ruling closed given closed", ""},
		{9043, []int{2, 3}, "open given closed closed closed ruling closed given closed", ""},
		{9084, nil, "open given closed closed closed ruling closed given closed", ""},
		{9085, []int{5}, "open given closed closed closed closed closed given closed", "1 840 -10.00;2 840 -10.01;4 840 -10.00;5 840 -1.04;6 840 -505.55;7 840 -10.06;8 840 -10.07;20 840 10.00;21 840 10.01;23 840 10.00;24 840 1.04;25 840 5.55;26 840 10.06;27 840 10.07;9999 840 500.00"},
		{lastDay, nil, "open given closed closed closed closed closed given closed", ""},
	} {
		j.must(t, dayLine(x.day))
		if _, due := askOpenAndDue(t, j.book); !slices.Equal(due, x.due) {
			t.Errorf("on day %d %v are due, want %v", x.day, due, x.due)
		}
		before := j.book
		var lines []string
		for _, n := range x.due {
			lines = append(lines, fmt.Sprintf("act %d expire 0 0", n))
		}
		if done := j.expire(t); done != len(x.due) || statesOf(j.book) != x.states || !slices.Equal(j.book.Log[len(before.Log):], lines) {
			t.Errorf("on day %d %d ran out: %s, %q", x.day, done, statesOf(j.book), j.book.Log[len(before.Log):])
		}
		if got := impl.LedgerText(j.book.Ledger); x.books != "" && got != x.books {
			t.Errorf("on day %d the books are %s", x.day, got)
		}
		if len(x.due) == 0 && !sameBook(j.book, before) {
			t.Errorf("on day %d nothing is due, and the book becomes %s", x.day, shortBook(j.book))
		}
		j.askNothingIsDue(t)
	}
	j.askReadAgain(t, nil)
}

func (j *journal) askNothingIsDue(t *testing.T) {
	t.Helper()
	if _, due := askOpenAndDue(t, j.book); len(due) > 0 {
		t.Errorf("behind all that ran out %v are due", due)
	}
	if again, done := askExpire(t, j.book); done != 0 || !sameBook(again, j.book) {
		t.Errorf("asked again, %d ran out", done)
	}
}

func TestBookExpireAll(t *testing.T) {
	j := dueBook(t)
	j.must(t, dayLine(9085))
	if done := j.expire(t); done != 5 || statesOf(j.book) != "open given closed closed closed closed closed given closed" {
		t.Errorf("%d ran out: %s", done, statesOf(j.book))
	}
	if got := j.book.Log[len(j.book.Log)-5:]; !slices.Equal(got, []string{"act 1 expire 0 0", "act 2 expire 0 0", "act 3 expire 0 0", "act 4 expire 0 0", "act 5 expire 0 0"}) {
		t.Errorf("the last lines are %q", got)
	}
	j.askNothingIsDue(t)
}

// With a log that is nearly full, the first ones run out alone.
func TestBookExpireWithoutRoom(t *testing.T) {
	for room := range 8 {
		j := dueBook(t)
		for len(j.book.Log) < mostLog-room {
			j.must(t, dayLine(max(j.book.Today+1, 9085)))
		}
		before := j.book
		want := min(room, 5)
		after, done := askExpire(t, before)
		if done != want || len(after.Log) != mostLog-room+want || len(impl.BookDue(after)) != 5-want {
			t.Errorf("with room for %d lines %d ran out: %s", room, done, shortBook(after))
		}
	}
}

// One that cannot run out does not keep the others from it.
func TestBookExpireGoesOn(t *testing.T) {
	// Ruled for half of 1, down, the issuer pays the fee, which it cannot.
	poor := impl.Case{Issuer: 1, Acquirer: 4, Cur: 840, Amount: 1, State: 6, Reason: 4855, Claim: 1, Start: 2, Due: 40}
	asked, open := anyCase(1, 0, 0, 40), anyCase(0, 0, 0, 40)
	books := ledger(line(1, 840, -most), line(4, 840, most))
	for _, x := range []struct {
		what  string
		cases []impl.Case
		off   []int
		done  int
		left  []int
	}{
		{"one that the accounts cannot take", []impl.Case{asked, poor, asked}, nil, 2, []int{1}},
		{"at the front", []impl.Case{poor, asked, asked}, nil, 2, []int{0}},
		{"at the end", []impl.Case{asked, asked, poor}, nil, 2, []int{2}},
		{"alone", []impl.Case{poor}, nil, 0, []int{0}},
		{"one that is open", []impl.Case{open, asked, open, asked}, nil, 2, []int{0, 2}},
		{"one that is none", []impl.Case{{}, asked, {Due: 40}, asked}, nil, 2, []int{0, 2}},
		{"no holiday list", []impl.Case{asked, asked}, []int{5, 5}, 0, []int{0, 1}},
	} {
		b := impl.Book{Today: 41, Off: x.off, Cases: x.cases, Ledger: books}
		after, done := askExpire(t, b)
		if done != x.done || !slices.Equal(impl.BookDue(after), x.left) {
			t.Errorf("%s: %d ran out, and %v are due", x.what, done, impl.BookDue(after))
		}
	}
}

// someLine is a line that is often done to the book as it is.
func (j *journal) someLine(thrown *chance) string {
	b := j.book
	switch thrown.below(25) {
	case 0, 1:
		return authLine(thrown.below(400), 1+thrown.below(4), thrown.of([]int{840, 392, 48}), thrown.of([]int{1, 3, 10, 1000, 123457, mostPaid}))
	case 2, 3, 4:
		if len(b.Auths) > 0 {
			a := b.Auths[thrown.below(len(b.Auths))]
			return payLine(a.Issuer, thrown.of([]int{5, 6, 7, 8, 1, 9999}), a.Cur, thrown.of([]int{a.Amount, a.Amount, a.Amount + a.Amount/10, 1, a.Amount/2 + 1, a.Amount + a.Amount/10 + 1}))
		}
		return payLine(1, 5, 840, 10)
	case 5:
		step := thrown.of([]int{0, 1, 1, 1, 2, 7, 8})
		if len(b.Cases) > 0 && thrown.below(2) == 0 {
			step = max(0, b.Cases[thrown.below(len(b.Cases))].Due-b.Today) + thrown.below(2)
		}
		return dayLine(b.Today + step)
	case 6:
		return thrown.noise(j)
	}
	return thrown.someAct(b)
}

func (x *chance) someAct(b impl.Book) string {
	if len(b.Cases) == 0 {
		return actLine(x.below(2), "ask", 0, 0)
	}
	n := x.below(len(b.Cases))
	if x.below(40) == 0 {
		n = len(b.Cases)
		return actLine(n, "ask", 0, 0)
	}
	c := b.Cases[n]
	kind := x.below(10)
	for range 12 {
		// A case that is closed at once has no story.
		if !slices.Contains(statesOfActs[kind], c.State) || kind == 9 && x.below(8) > 0 {
			kind = x.below(10)
		}
	}
	amount := x.of([]int{c.Claim, c.Claim, c.Claim/2 + 1, c.Claim / 2, 1, 0, c.Claim + 1, c.Amount})
	if kind == 2 {
		amount = x.of([]int{c.Amount, c.Amount, c.Amount, 1, c.Amount/2 + 1, 0, c.Amount + 1})
	}
	return actLine(n, actNames[kind], amount, reasonRows[x.below(6)].code)
}

// noise is a line that is refused, mostly as no line.
func (x *chance) noise(j *journal) string {
	list := []string{"", "day", "act 0 dance 0 0", "auth a 1 840 5", "pay 1 5 840 05", someText(x.below(40), x.below(256)), "act 0 ask 0 0 "}
	if len(j.book.Log) > 0 {
		last := j.book.Log[x.below(len(j.book.Log))]
		at := x.below(len(last) + 1)
		list = append(list, last, last[:at], last[at:], last[:at]+" "+last[at:], last[:at]+oneByte(x.below(256))+last[at:])
	}
	return list[x.below(len(list))]
}

// Books that chance leads to, held against the promise behind every line.
func TestManyBooks(t *testing.T) {
	thrown := chance(11)
	offs := someOffLists()
	kinds := map[string]int{}
	fees := 0
	for n := range 200 {
		start := thrown.of([]int{0, 2, 9000, 9000, 9000, lastDay - 300, lastDay - 30})
		j := newJournal(t, start, offs[n%len(offs)])
		for range 60 + 600*(n%10/9) {
			j.do(t, j.someLine(&thrown))
			if thrown.below(30) == 0 {
				j.expire(t)
				j.askNothingLeft(t)
			}
			if t.Failed() {
				t.Fatal("book", n, "with", j.book.Log)
			}
		}
		for _, line := range j.book.Log {
			if words := strings.Split(line, " "); words[0] == "act" {
				kinds[words[2]]++
			} else {
				kinds[words[0]]++
			}
		}
		for _, fee := range j.fees {
			fees += fee
		}
		text := impl.BookText(j.book)
		cuts := []int{0, len(text)}
		for range 40 {
			cuts = append(cuts, thrown.below(len(text)+1))
		}
		j.askReadAgain(t, cuts)
	}
	for _, kind := range append([]string{"day", "auth", "pay"}, actNames...) {
		if kinds[kind] < 20 {
			t.Errorf("too few lines were done: %v", kinds)
			break
		}
	}
	if fees < 20*theFee {
		t.Errorf("too few fees were paid: %d; %v", fees, kinds)
	}
}

// askNothingLeft wants that what is still due could not run out, as its line says.
func (j *journal) askNothingLeft(t *testing.T) {
	t.Helper()
	for _, n := range impl.BookDue(j.book) {
		if code := j.do(t, actLine(n, "expire", 0, 0)); code != impl.BookMoney && code != impl.BookFull {
			t.Errorf("%d is due still: %d", n, code)
		}
	}
}

// Cut off at every byte, small books are what they were then.
func TestBooksCutOffAnywhere(t *testing.T) {
	thrown := chance(5)
	for n, off := range someOffLists() {
		j := newJournal(t, 9000, off)
		for len(j.book.Log) < 25 {
			j.do(t, j.someLine(&thrown))
		}
		j.askReadAgain(t, daysFrom(0, 1, len(impl.BookText(j.book))+1))
		if t.Failed() {
			t.Fatal("book", n)
		}
	}
	j := dueBook(t)
	j.must(t, dayLine(9085))
	j.expire(t)
	j.askReadAgain(t, daysFrom(0, 1, len(impl.BookText(j.book))+1))
	// With the lines that were refused between them it is cut off there.
	lines := []string{}
	for _, x := range handLines {
		lines = append(lines, x.line)
	}
	text := strings.Join(lines, "\n") + "\n"
	for cut := range len(text) + 1 {
		if _, n := askBookRead(t, 9000, nil, text[:cut]); n != min(2, strings.Count(text[:cut], "\n")) {
			t.Errorf("cut off at %d %d lines are done", cut, n)
		}
	}
}

// What ran out in one go is what its lines make one by one.
func TestBookExpireIsItsLines(t *testing.T) {
	thrown := chance(6)
	most := 0
	for range 60 {
		j := newJournal(t, 9000, nil)
		for range 150 {
			j.do(t, j.someLine(&thrown))
		}
		j.do(t, dayLine(j.book.Today+thrown.of([]int{1, 20, 40, 100})))
		b := j.book
		due := impl.BookDue(b)
		for _, n := range due {
			b, _ = impl.BookDo(b, fmt.Sprintf("act %d expire 0 0", n))
		}
		most = max(most, len(due))
		if j.expire(t); !sameBook(j.book, b) {
			t.Errorf("all at once it is %s, one by one %s", shortBook(j.book), shortBook(b))
		}
		j.askNothingLeft(t)
	}
	if most < 4 {
		t.Error("at most so many were due:", most)
	}
}

// oddBooks are books that no lines lead to, each part of them once.
func oddBooks() []impl.Book {
	base := impl.Book{Today: 9000, Auths: authsOf(1000, 900), Cases: []impl.Case{anyCase(0, 0, 0, -1), anyCase(3, 10000, 10000, 8999)}, Ledger: ledger(line(1, 840, -10000), line(4, 840, 10000)), Log: []string{"x"}}
	list := []impl.Book{{}, base}
	for _, today := range slices.Concat(edgeDays, []int{8999, 9001, 9007, 9008}) {
		b := base
		b.Today = today
		list = append(list, b)
	}
	for _, today := range []int{lastDay + 1, lastDay + 7, lastDay + 8} {
		b := base
		b.Today, b.Auths = today, []impl.Auth{anyAuth(1, 1000, lastDay)}
		list = append(list, b)
	}
	for _, off := range append(badOffLists(), goodOffLists()...) {
		b := base
		b.Off = off
		list = append(list, b)
	}
	for _, auths := range listsOfAuths() {
		b := base
		b.Auths = auths
		list = append(list, b)
	}
	for _, c := range badCases()[:120] {
		b := base
		b.Cases = []impl.Case{c, c}
		list = append(list, b)
	}
	for _, l := range allLedgers() {
		b := base
		b.Ledger = l
		list = append(list, b)
	}
	for _, log := range [][]string{nil, {""}, {"\n", "\x00"}, dayLog(mostLog - 1), dayLog(mostLog), dayLog(mostLog + 1), {strings.Repeat("long ", 2000)}} {
		b := base
		b.Log = log
		list = append(list, b)
	}
	return list
}

var oddLines = []string{
	"day 9001", "day 80000", "day 80001", "day 0", "auth 000000000001 1 840 500", "auth a 1 840 500", "pay 1 4 840 1000", "pay 1 1 840 1000", "pay 1 9999 840 1000", "pay 1 4 840 1",
	"act 0 ask 0 0", "act 0 charge 10000 4855", "act 0 charge 10000 4837", "act 1 answer 10000 0", "act 1 expire 0 0", "act 1 close 0 0", "act 0 close 0 0", "act 2 ask 0 0", "act 999999999999999 ask 0 0", "", "x",
}

func TestOddBooks(t *testing.T) {
	for i, b := range oddBooks() {
		for _, line := range oddLines {
			askBookDo(t, b, line)
		}
		askBookText(t, b)
		askOpenAndDue(t, b)
		askExpire(t, b)
		if t.Failed() {
			t.Fatal("book", i)
		}
	}
}

// The codes of books that no lines lead to, by hand.
func TestOddBooksByHand(t *testing.T) {
	base := impl.Book{Today: 9000, Auths: authsOf(1000), Cases: []impl.Case{anyCase(0, 0, 0, -1)}}
	with := func(change func(*impl.Book)) impl.Book {
		b := cloneBook(base)
		change(&b)
		return b
	}
	for _, x := range []struct {
		what string
		b    impl.Book
		line string
		code int
	}{
		{"no day at all", with(func(b *impl.Book) { b.Today = -1 }), "day 0", 0},
		{"the least int as today", with(func(b *impl.Book) { b.Today = leastOfInt }), "day 0", 0},
		{"the greatest int as today", with(func(b *impl.Book) { b.Today = greatestInt }), "day 80000", 4},
		{"behind the last day", with(func(b *impl.Book) { b.Today = lastDay + 1 }), "day 80000", 4},
		{"auth on no day", with(func(b *impl.Book) { b.Today = -1 }), "auth 000000000001 1 840 500", 3},
		{"auth behind the last day", with(func(b *impl.Book) { b.Today = lastDay + 1 }), "auth 000000000001 1 840 500", 3},
		{"pay on no day", with(func(b *impl.Book) { b.Today = -1 }), "pay 1 4 840 1000", 3},
		{"pay just behind the last day", with(func(b *impl.Book) { b.Today, b.Auths[0].Day = lastDay+1, lastDay }), "pay 1 4 840 1000", 5},
		{"pay with too many auths", with(func(b *impl.Book) { b.Auths = manyAuths(mostAuths + 1) }), "pay 1 4 840 1000", 3},
		{"auth to too many", with(func(b *impl.Book) { b.Auths = manyAuths(mostAuths + 1) }), "auth 000000000001 1 840 500", 3},
		{"pay with an uneven ledger", with(func(b *impl.Book) { b.Ledger = ledger(line(1, 840, 5)) }), "pay 1 4 840 1000", 6},
		{"an act with entries and an uneven ledger", with(func(b *impl.Book) { b.Ledger = ledger(line(1, 840, 5)) }), "act 0 charge 10000 4855", 14},
		{"an act without entries and an uneven ledger", with(func(b *impl.Book) { b.Ledger = ledger(line(1, 840, 5)) }), "act 0 ask 0 0", 0},
		{"an act ahead of the start of its case", with(func(b *impl.Book) { b.Today = 1 }), "act 0 ask 0 0", 15},
		{"an act on no day", with(func(b *impl.Book) { b.Today = -1 }), "act 0 ask 0 0", 15},
		{"an act with no holiday list", with(func(b *impl.Book) { b.Off = []int{2, 2} }), "act 0 ask 0 0", 15},
		{"a day with no holiday list", with(func(b *impl.Book) { b.Off = []int{2, 2} }), "day 9001", 0},
		{"pay with no holiday list", with(func(b *impl.Book) { b.Off = []int{2, 2} }), "pay 1 4 840 1000", 0},
		{"an act to what is no case", with(func(b *impl.Book) { b.Cases[0] = impl.Case{} }), "act 0 ask 0 0", 15},
		{"the zero value", impl.Book{}, "day 1", 0},
		{"the zero value on its day", impl.Book{}, "day 0", 4},
		{"an act to the zero value", impl.Book{}, "act 0 ask 0 0", 5},
	} {
		if _, code := askBookDo(t, x.b, x.line); code != x.code {
			t.Errorf("%s: %q: %d, want %d", x.what, x.line, code, x.code)
		}
	}
}

// anythingAsBook is a book or nearly one.
func anythingAsBook(thrown *chance, ledgers []impl.Ledger) impl.Book {
	b := impl.Book{Today: 9000 + thrown.below(4)}
	if thrown.below(5) == 0 {
		b.Today = thrown.of(edgeDays)
	}
	if thrown.below(4) == 0 {
		b.Off = []int{thrown.of(edgeDays), thrown.of(edgeDays)}
	}
	for range thrown.below(6) {
		b.Auths = append(b.Auths, anythingAsAuth(thrown))
	}
	for range thrown.below(5) {
		c := anyCase(thrown.below(8), 4000, 3000, 8998+thrown.below(5))
		if thrown.below(2) == 0 {
			*caseFields(&c)[thrown.below(11)] = thrown.of(caseInts)
		}
		b.Cases = append(b.Cases, c)
	}
	if thrown.below(3) == 0 {
		b.Ledger = ledgers[thrown.below(len(ledgers))]
	}
	for range thrown.below(3) {
		b.Log = append(b.Log, someText(thrown.below(20), thrown.below(256)))
	}
	return b
}

// Every function is asked with anything, and answers.
func TestAnyBookIsAnswered(t *testing.T) {
	thrown := chance(44)
	ledgers := slices.DeleteFunc(allLedgers(), func(l impl.Ledger) bool { return len(l.Lines) > 20 })
	for range 12000 {
		b := anythingAsBook(&thrown, ledgers)
		j := &journal{book: b}
		line := j.someLine(&thrown)
		if len(b.Log) > 0 && b.Log[0] == "" {
			line = "day 9002"
		}
		askBookDo(t, b, line)
		askBookDo(t, b, thrown.someAct(b))
		askOpenAndDue(t, b)
		askExpire(t, b)
		askBookText(t, b)
		askBookAll(t, b.Today, b.Off, append(b.Log, line))
		askBookRead(t, b.Today, b.Off, wantBookText(b)+line+"\n"+line)
		if t.Failed() {
			t.Fatal("of", b)
		}
	}
}

// bookCalls are the calls that answer a book, each with and without a refusal.
func bookCalls() []func(impl.Book) impl.Book {
	calls := []func(impl.Book) impl.Book{
		func(b impl.Book) impl.Book { got, _ := impl.BookExpire(b); return got },
		func(b impl.Book) impl.Book { got, _ := impl.BookAll(b.Today, b.Off, b.Log); return got },
		func(b impl.Book) impl.Book { got, _ := impl.BookStart(b.Today, b.Off); return got },
	}
	for _, line := range slices.Concat(goodLines, oddLines, []string{"day 9100", "act 1 charge 700 4855", "act 1 expire 0 0"}) {
		calls = append(calls, func(b impl.Book) impl.Book { got, _ := impl.BookDo(b, line); return got })
	}
	return calls
}

// someBooks are books of all kinds, from lines and not.
func someBooks(t *testing.T) []impl.Book {
	t.Helper()
	j := dueBook(t)
	list := []impl.Book{{}, handBook(t).book, startBook(t).book, j.book}
	j.must(t, dayLine(9085), authLine(50, 1, 840, 900))
	list = append(list, j.book)
	odd := oddBooks()
	for i := 0; i < len(odd); i += 7 {
		list = append(list, odd[i])
	}
	return list
}

// withRoom is the book with other things in the spare room behind each of its lists.
func withRoom(b impl.Book) impl.Book {
	room := cloneBook(b)
	room.Off = append(room.Off, 70000, -7)[:len(b.Off)]
	room.Auths = append(room.Auths, anyAuth(7777, 5, 9000), used(anyAuth(8888, 6, 9001)))[:len(b.Auths)]
	room.Cases = append(room.Cases, anyCase(0, 0, 0, -1), anyCase(6, 1, 2, 3))[:len(b.Cases)]
	room.Ledger.Lines = append(room.Ledger.Lines, line(-7, 840, 3), line(1, 840, 77))[:len(b.Ledger.Lines)]
	room.Log = append(room.Log, "kept", "day 9001")[:len(b.Log)]
	return room
}

// allRoom is the book with the spare room as a part of its lists.
func allRoom(b impl.Book) impl.Book {
	b.Off, b.Auths, b.Cases = b.Off[:cap(b.Off)], b.Auths[:cap(b.Auths)], b.Cases[:cap(b.Cases)]
	b.Ledger.Lines, b.Log = b.Ledger.Lines[:cap(b.Ledger.Lines)], b.Log[:cap(b.Log)]
	return b
}

func TestBooksAndTheirRoomAreNotWrittenInto(t *testing.T) {
	for i, b := range someBooks(t) {
		room := withRoom(b)
		kept := cloneBook(allRoom(room))
		for range 2 {
			for _, call := range bookCalls() {
				call(room)
			}
			impl.BookText(room)
			impl.BookOpen(room)
			impl.BookDue(room)
		}
		if !sameBook(allRoom(room), kept) {
			t.Errorf("book %d, or the room behind its lists, was written into", i)
		}
	}
}

// What stands behind the end of a list is no part of it.
func TestBehindTheListsOfABookNothingIsRead(t *testing.T) {
	for i, b := range someBooks(t) {
		room := withRoom(b)
		for k, call := range bookCalls() {
			if got, want := call(room), call(cloneBook(b)); !sameBook(got, want) {
				t.Errorf("call %d of book %d: %s, want %s", k, i, shortBook(got), shortBook(want))
			}
		}
		if impl.BookText(room) != impl.BookText(b) || !slices.Equal(impl.BookOpen(room), impl.BookOpen(b)) || !slices.Equal(impl.BookDue(room), impl.BookDue(b)) {
			t.Errorf("of book %d what stands behind its lists is told", i)
		}
	}
}

func TestLinesAreNotWrittenInto(t *testing.T) {
	room := append(slices.Clone(handBook(t).book.Log), "day 9500", "day 9501")
	kept := slices.Clone(room)
	off := []int{5, 6, 9001, 9002}
	for n := range len(room) - 1 {
		if b, done := impl.BookAll(9000, off[:2], room[:n]); done != n || len(b.Log) != n || !slices.Equal(b.Off, off[:2]) {
			t.Errorf("of %d lines %d are done", n, done)
		}
		impl.BookRead(9000, off[:2], strings.Join(room[:n], "\n"))
		impl.BookStart(9000, off[:2])
	}
	if !slices.Equal(room, kept) || !slices.Equal(off, []int{5, 6, 9001, 9002}) {
		t.Error("the lines or the days off were written into")
	}
}

// overwriteBook writes into all the room that the lists of a book have.
func overwriteBook(b impl.Book) {
	b = allRoom(b)
	for i := range b.Off {
		b.Off[i] = -9
	}
	overwriteAuths(b.Auths)
	for i := range b.Cases {
		b.Cases[i] = impl.Case{Issuer: -1, State: 77}
	}
	overwrite(b.Ledger)
	for i := range b.Log {
		b.Log[i] = "changed"
	}
}

// bookTexts are all texts that a book holds.
func bookTexts(b impl.Book) []string { return append(refsOf(b.Auths), b.Log...) }

// askTextsApart wants no text of the one on one of the others in memory.
func askTextsApart(t *testing.T, what string, texts, others []string) {
	t.Helper()
	for _, text := range texts {
		for _, other := range others {
			if len(text) > 1 && shares(text, other) {
				t.Fatalf("%s: %.60q and %.60q share memory", what, text, other)
			}
		}
	}
}

func TestBooksAnsweredAreNewMemory(t *testing.T) {
	for i, b := range someBooks(t) {
		for k, call := range bookCalls() {
			what := fmt.Sprintf("call %d of book %d", k, i)
			mine, kept := cloneBook(b), cloneBook(b)
			one, two := call(mine), call(mine)
			want := cloneBook(two)
			if len(b.Log)+len(b.Auths) < 60 {
				texts := bookTexts(one)
				askTextsApart(t, what, texts, slices.Concat(bookTexts(mine), bookTexts(two)))
				for n := range texts {
					askTextsApart(t, what, texts[n:n+1], texts[n+1:])
				}
			}
			overwriteBook(one)
			if !sameBook(mine, kept) || !sameBook(two, want) || !sameBook(call(mine), want) {
				t.Fatalf("%s: an answer that is changed changes another thing", what)
			}
			overwriteBook(mine)
			if !sameBook(two, want) {
				t.Fatalf("%s: a book that is changed changes an answer", what)
			}
		}
	}
}

func TestTextsOfBooksAreNewMemory(t *testing.T) {
	lines := handBook(t).book.Log
	text := strings.Join(lines, "\n") + "\n"
	all, _ := impl.BookAll(9000, nil, lines[:7])
	read, _ := impl.BookRead(9000, nil, text)
	askTextsApart(t, "BookAll", bookTexts(all), lines)
	askTextsApart(t, "BookRead", bookTexts(read), []string{text})
	askTextsApart(t, "BookText", []string{impl.BookText(all), impl.BookText(impl.Book{Log: lines[:1]})}, append(bookTexts(all), lines...))
	start, _ := impl.BookStart(9000, nil)
	for _, line := range []string{"auth 000000000001 1 840 500", "day 9001"} {
		b, code := impl.BookDo(start, line)
		if code != 0 {
			t.Fatal(line, code)
		}
		askTextsApart(t, "BookDo", bookTexts(b), []string{line})
		for n, one := range bookTexts(b) {
			askTextsApart(t, "BookDo", []string{one}, bookTexts(b)[n+1:])
		}
	}
}

func TestNumbersOfOpenCasesAreNewMemory(t *testing.T) {
	j := dueBook(t)
	j.must(t, dayLine(9085))
	for _, ask := range []func(impl.Book) []int{impl.BookOpen, impl.BookDue} {
		one, two := ask(j.book), ask(j.book)
		want := slices.Clone(two)
		for i := range one[:cap(one)] {
			one[:cap(one)][i] = -1
		}
		if len(want) < 5 || !slices.Equal(two, want) || !slices.Equal(ask(j.book), want) {
			t.Errorf("two answers share memory: %v, want %v", two, want)
		}
	}
}

// A book that was handed out is not kept: what is done to it later is not seen in another.
func TestBooksOfCallsAreNotKept(t *testing.T) {
	start, _ := impl.BookStart(9000, nil)
	for range 3 {
		one, code := impl.BookDo(start, "auth 000000000001 1 840 500")
		if code != 0 || len(one.Auths) != 1 || len(one.Log) != 1 {
			t.Error("that it was done to another book is kept:", code, one)
		}
		// Two books go on from one in two ways.
		a, _ := impl.BookDo(one, "pay 1 4 840 500")
		b, _ := impl.BookDo(one, "pay 1 5 840 400")
		if a.Cases[0].Acquirer != 4 || b.Cases[0].Acquirer != 5 || one.Auths[0].Used || len(one.Cases)+len(one.Ledger.Lines) > 0 || a.Log[1] == b.Log[1] {
			t.Error("two books that go on from one are", a, b)
		}
	}
	if len(start.Log)+len(start.Auths) > 0 {
		t.Error("the start is", start)
	}
}

// bookAnswers are the answers of every function, in one order.
func bookAnswers(books []impl.Book) []string {
	var list []string
	for _, b := range books {
		for _, call := range bookCalls() {
			list = append(list, fmt.Sprint(call(b)))
		}
		for _, line := range oddLines {
			_, code := impl.BookDo(b, line)
			list = append(list, strconv.Itoa(code))
		}
		_, done := impl.BookExpire(b)
		_, all := impl.BookAll(9000, b.Off, b.Log)
		_, read := impl.BookRead(9000, b.Off, impl.BookText(b))
		list = append(list, fmt.Sprint(impl.BookOpen(b), impl.BookDue(b), done, all, read), impl.BookText(b))
	}
	return list
}

func TestBooksAnswerTheSameAgain(t *testing.T) {
	books := someBooks(t)
	first := bookAnswers(books)
	for range 3 {
		if !slices.Equal(bookAnswers(books), first) {
			t.Fatal("asked again, another answer is given")
		}
	}
	same := make([]bool, 8)
	var all sync.WaitGroup
	for i := range same {
		all.Go(func() { same[i] = slices.Equal(bookAnswers(books), first) })
	}
	all.Wait()
	if slices.Contains(same, false) {
		t.Error("asked side by side, another answer is given")
	}
}
