package tests

import (
	"fmt"
	"math"
	"math/big"
	"slices"
	"strconv"
	"strings"
	"testing"

	"loop.example/g00126/impl"
)

const (
	mostLines   = 400
	lastAccount = 9999
)

// accountInts are the ints at which an account, or int itself, begins or ends.
var accountInts = []int{math.MinInt, -lastAccount, -1, 0, 1, 2, 5000, 9998, lastAccount, 10000, 10001, 65536 + 1, 1<<32 + 1, math.MaxInt}

// currencyInts are currencies and codes that are nearly one.
var currencyInts = []int{math.MinInt, -840, -1, 0, 1, 36, 47, 48, 49, 391, 392, 393, 414, 756, 826, 839, 840, 841, 978, 999, 8400, 1<<32 + 840, math.MaxInt}

var ledgerCurrencies = []int{36, 48, 392, 414, 756, 826, 840, 978}

func line(acct, cur, amount int) impl.Line {
	return impl.Line{Acct: acct, Cur: cur, Amount: amount}
}

func entry(from, to, cur, amount int) impl.Entry {
	return impl.Entry{From: from, To: to, Cur: cur, Amount: amount}
}

func ledger(lines ...impl.Line) impl.Ledger { return impl.Ledger{Lines: lines} }

func isAccount(acct int) bool { return within(acct, 1, lastAccount) }

func allAccounts(list []int) bool {
	return !slices.ContainsFunc(list, func(acct int) bool { return !isAccount(acct) })
}

func isCurrency(cur int) bool {
	_, known := currencyDigits[cur]
	return known
}

// unevenCurrencies adds up in big numbers, and so for amounts that are none too.
func unevenCurrencies(l impl.Ledger) []int {
	sums := map[int]*big.Int{}
	for _, x := range l.Lines {
		if sums[x.Cur] == nil {
			sums[x.Cur] = new(big.Int)
		}
		sums[x.Cur].Add(sums[x.Cur], big.NewInt(int64(x.Amount)))
	}
	var uneven []int
	for cur, sum := range sums {
		if sum.Sign() != 0 {
			uneven = append(uneven, cur)
		}
	}
	return uneven
}

func wantLedgerOk(l impl.Ledger) bool {
	if len(l.Lines) > mostLines || len(unevenCurrencies(l)) > 0 {
		return false
	}
	last := 0
	for _, x := range l.Lines {
		if !isAccount(x.Acct) || !isCurrency(x.Cur) || x.Amount == 0 || !isAmount(x.Amount) {
			return false
		}
		// No currency has more than three digits, so that this tells account and then currency.
		rank := x.Acct*1000 + x.Cur
		if rank <= last {
			return false
		}
		last = rank
	}
	return true
}

func wantEntryOk(e impl.Entry) bool {
	return isAccount(e.From) && isAccount(e.To) && e.From != e.To && isCurrency(e.Cur) && within(e.Amount, 1, most)
}

// movedLine changes the line where it stands, or puts a new one in front of the first that must stand behind it.
func movedLine(lines []impl.Line, acct, cur, change int) []impl.Line {
	at := 0
	for at < len(lines) && (lines[at].Acct < acct || lines[at].Acct == acct && lines[at].Cur < cur) {
		at++
	}
	if at == len(lines) || lines[at].Acct != acct || lines[at].Cur != cur {
		return slices.Insert(lines, at, line(acct, cur, change))
	}
	lines[at].Amount += change
	if lines[at].Amount == 0 {
		return slices.Delete(lines, at, at+1)
	}
	return lines
}

func wantPost(l impl.Ledger, e impl.Entry) (impl.Ledger, bool) {
	if !wantLedgerOk(l) || !wantEntryOk(e) {
		return l, false
	}
	lines := movedLine(slices.Clone(l.Lines), e.From, e.Cur, -e.Amount)
	posted := impl.Ledger{Lines: movedLine(lines, e.To, e.Cur, e.Amount)}
	if !wantLedgerOk(posted) {
		return l, false
	}
	return posted, true
}

func wantPostAll(l impl.Ledger, list []impl.Entry) (impl.Ledger, bool) {
	posted := l
	for _, e := range list {
		next, ok := wantPost(posted, e)
		if !ok {
			return l, false
		}
		posted = next
	}
	return posted, true
}

func wantLedgerText(l impl.Ledger) string {
	if !wantLedgerOk(l) {
		return ""
	}
	text := "-"
	for i, x := range l.Lines {
		if i == 0 {
			text = ""
		} else {
			text += ";"
		}
		text += fmt.Sprintf("%d %d %s", x.Acct, x.Cur, impl.MoneyText(x.Amount, x.Cur))
	}
	return text
}

func sameLedger(a, b impl.Ledger) bool { return slices.Equal(a.Lines, b.Lines) }

// shortLedger names a ledger in a failure.
func shortLedger(l impl.Ledger) string {
	if len(l.Lines) > 8 {
		return fmt.Sprintf("%d lines, first %v, last %v", len(l.Lines), l.Lines[0], l.Lines[len(l.Lines)-1])
	}
	return fmt.Sprint(l.Lines)
}

func askLedgerOk(t *testing.T, l impl.Ledger) {
	t.Helper()
	if got, want := impl.LedgerOk(l), wantLedgerOk(l); got != want {
		t.Errorf("LedgerOk of %s = %v, want %v", shortLedger(l), got, want)
	}
}

func askPost(t *testing.T, l impl.Ledger, e impl.Entry) (impl.Ledger, bool) {
	t.Helper()
	want, wantOk := wantPost(l, e)
	got, ok := impl.Post(l, e)
	if !sameLedger(got, want) || ok != wantOk {
		t.Errorf("Post of %v to %s: %s, %v; want %s, %v", e, shortLedger(l), shortLedger(got), ok, shortLedger(want), wantOk)
	}
	if uneven := unevenCurrencies(got); ok && len(uneven) > 0 {
		t.Errorf("Post of %v to %s leaves %v uneven", e, shortLedger(l), uneven)
	}
	if ok && !impl.LedgerOk(got) {
		t.Errorf("Post of %v to %s is not LedgerOk: %s", e, shortLedger(l), shortLedger(got))
	}
	return got, ok
}

// askUndone posts e and then its back.
func askUndone(t *testing.T, l impl.Ledger, e impl.Entry) {
	t.Helper()
	posted, ok := impl.Post(l, e)
	if !ok {
		return
	}
	if again, ok := impl.Post(posted, impl.Back(e)); !ok || !sameLedger(again, l) {
		t.Errorf("Post of %v to %s and back: %s, %v", e, shortLedger(l), shortLedger(again), ok)
	}
	if both, ok := impl.PostAll(l, []impl.Entry{e, impl.Back(e)}); !ok || !sameLedger(both, l) {
		t.Errorf("PostAll of %v and its back to %s: %s, %v", e, shortLedger(l), shortLedger(both), ok)
	}
}

func askPostAll(t *testing.T, l impl.Ledger, list []impl.Entry) (impl.Ledger, bool) {
	t.Helper()
	want, wantOk := wantPostAll(l, list)
	got, ok := impl.PostAll(l, list)
	if !sameLedger(got, want) || ok != wantOk {
		t.Errorf("PostAll of %d entries to %s: %s, %v; want %s, %v", len(list), shortLedger(l), shortLedger(got), ok, shortLedger(want), wantOk)
	}
	return got, ok
}

// linesFrom are n lines (not 1) of one currency that make up 0, an account every step from first on.
func linesFrom(first, step, n, cur, size int) impl.Ledger {
	var l impl.Ledger
	for i := range n {
		amount := size
		if i%2 == 1 {
			amount = -size
		}
		l.Lines = append(l.Lines, line(first+i*step, cur, amount))
	}
	if n%2 == 1 {
		l.Lines[0].Amount = size + 1
		l.Lines[1].Amount = -2*size - 1
	}
	return l
}

// linesOfAll are a line of each currency in each of n accounts (an even number).
func linesOfAll(n int) impl.Ledger {
	var l impl.Ledger
	for i := range n {
		for k, cur := range ledgerCurrencies {
			amount := 100*i + k + 1
			if i >= n/2 {
				amount = -(100*(n-1-i) + k + 1)
			}
			l.Lines = append(l.Lines, line(i+1, cur, amount))
		}
	}
	return l
}

// steepLines are n lines (an even number) of MaxMoney and then of -MaxMoney: their sum on the way is no amount.
func steepLines(n int) impl.Ledger {
	var l impl.Ledger
	for i := range n {
		amount := most
		if i >= n/2 {
			amount = -most
		}
		l.Lines = append(l.Lines, line(i+1, 840, amount))
	}
	return l
}

func goodLedgers() []impl.Ledger {
	return []impl.Ledger{
		{},
		{Lines: []impl.Line{}},
		ledger(line(1, 840, 500), line(2, 840, -500)),
		ledger(line(1, 840, -1), line(2, 840, 1)),
		ledger(line(1, 840, 1), line(9999, 840, -1)),
		ledger(line(10, 840, 5), line(20, 840, 7), line(30, 840, -12)),
		ledger(line(10, 840, most), line(20, 840, -most)),
		ledger(line(10, 840, most-5), line(20, 840, 5-most)),
		ledger(line(10, 840, most), line(20, 840, most), line(30, 840, -most), line(40, 840, -most)),
		ledger(line(1, 392, -9), line(1, 840, 300), line(2, 840, -500), line(3, 392, 9), line(3, 840, 200)),
		ledger(line(7, 36, 1), line(7, 48, 1), line(7, 978, 1), line(8, 36, -1), line(8, 48, -1), line(8, 978, -1)),
		ledger(line(7, 978, 5), line(8, 36, 5), line(8, 978, -5), line(9, 36, -5)),
		linesFrom(1, 1, 3, 392, 1),
		linesFrom(1, 25, mostLines-2, 840, 7),
		linesFrom(1, 25, mostLines-1, 840, 7),
		linesFrom(1, 25, mostLines, 840, 7),
		linesFrom(9600, 1, mostLines, 48, most),
		linesOfAll(2),
		linesOfAll(50),
		steepLines(4),
		steepLines(mostLines),
	}
}

func badLedgers() []impl.Ledger {
	bad := []impl.Ledger{
		// Uneven.
		ledger(line(1, 840, 5)),
		ledger(line(1, 840, -5)),
		ledger(line(1, 840, most)),
		ledger(line(1, 840, 5), line(2, 840, -4)),
		ledger(line(1, 840, 5), line(2, 840, 5)),
		ledger(line(1, 840, 5), line(2, 978, -5)),
		ledger(line(1, 840, 5), line(1, 978, -5)),
		ledger(line(1, 36, 5), line(1, 840, 5), line(2, 36, -4), line(2, 840, -6)),
		ledger(line(1, 36, 5), line(1, 840, 5), line(2, 36, -5)),
		ledger(line(1, 840, most), line(2, 840, most), line(3, 840, -most)),
		// Not ascending.
		ledger(line(2, 840, 5), line(1, 840, -5)),
		ledger(line(1, 840, 5), line(3, 840, -9), line(2, 840, 4)),
		ledger(line(2, 840, 5), line(1, 840, 4), line(3, 840, -9)),
		ledger(line(1, 978, 5), line(1, 840, 5), line(2, 840, -5), line(2, 978, -5)),
		ledger(line(1, 840, 5), line(1, 978, 5), line(2, 978, -5), line(2, 840, -5)),
		ledger(line(1, 36, 5), line(2, 36, -5), line(1, 48, 5), line(2, 48, -5)),
		ledger(line(2, 36, 5), line(1, 48, 5), line(3, 36, -5), line(3, 48, -5)),
		// A line that stands twice.
		ledger(line(1, 840, 5), line(1, 840, -5)),
		ledger(line(1, 840, 5), line(1, 840, 5), line(2, 840, -10)),
		ledger(line(1, 840, 10), line(2, 840, -5), line(2, 840, -5)),
		ledger(line(1, 840, 5), line(2, 840, -10), line(1, 840, 5)),
		// An amount of 0.
		ledger(line(1, 840, 0)),
		ledger(line(1, 840, 0), line(2, 840, 0)),
		ledger(line(1, 840, 0), line(2, 840, 5), line(3, 840, -5)),
		ledger(line(1, 840, 5), line(2, 840, 0), line(3, 840, -5)),
		ledger(line(1, 840, 5), line(2, 840, -5), line(3, 840, 0)),
		ledger(line(1, 36, 0), line(1, 840, 5), line(2, 840, -5)),
		// No amount, though the sum is even, or would be if it wrapped round.
		ledger(line(1, 840, most+1), line(2, 840, -most-1)),
		ledger(line(1, 840, most+1), line(2, 840, -most), line(3, 840, -1)),
		ledger(line(1, 840, -most-1), line(2, 840, most), line(3, 840, 1)),
		ledger(line(1, 840, math.MaxInt), line(2, 840, -math.MaxInt)),
		ledger(line(1, 840, math.MinInt), line(2, 840, math.MinInt)),
		ledger(line(1, 840, math.MinInt), line(2, 840, math.MaxInt), line(3, 840, 1)),
		ledger(line(1, 840, math.MaxInt), line(2, 840, math.MaxInt), line(3, 840, 2)),
		ledger(line(1, 840, 1<<62), line(2, 840, 1<<62), line(3, 840, 1<<62), line(4, 840, 1<<62)),
		// No account.
		ledger(line(0, 840, 5), line(1, 840, -5)),
		ledger(line(-1, 840, 5), line(1, 840, -5)),
		ledger(line(1, 840, 5), line(10000, 840, -5)),
		ledger(line(math.MinInt, 840, 5), line(math.MaxInt, 840, -5)),
		// No currency.
		ledger(line(1, 0, 5), line(2, 0, -5)),
		ledger(line(1, 841, 5), line(2, 841, -5)),
		ledger(line(1, -840, 5), line(2, -840, -5)),
		ledger(line(1, 840, 5), line(1, 999, 5), line(2, 840, -5), line(2, 999, -5)),
		// More lines than there may be.
		linesFrom(1, 1, mostLines+1, 840, 7),
		linesFrom(1, 1, mostLines+2, 840, 7),
		linesFrom(1, 1, 9999, 840, 7),
		linesOfAll(52),
		steepLines(mostLines + 2),
	}
	for _, n := range []int{mostLines, mostLines - 1} {
		full := linesFrom(1, 1, n, 840, 7)
		full.Lines[n-1].Amount--
		bad = append(bad, full)
	}
	return bad
}

func allLedgers() []impl.Ledger { return slices.Concat(goodLedgers(), badLedgers()) }

func goodEntries() []impl.Entry {
	list := []impl.Entry{
		entry(1, 2, 840, 500), entry(2, 1, 840, 500), entry(2, 1, 840, 499), entry(2, 1, 840, 501),
		entry(10, 20, 840, 5), entry(20, 10, 840, 5), entry(10, 20, 840, 6), entry(20, 10, 840, 6), entry(10, 20, 840, most), entry(20, 10, 840, most),
		entry(5, 15, 840, 3), entry(15, 25, 840, 3), entry(35, 45, 840, 3), entry(30, 20, 840, 7), entry(30, 10, 840, 5),
		entry(1, 9999, 840, 1), entry(9999, 1, 840, 1), entry(1, 9999, 392, 1), entry(9998, 9999, 48, most), entry(9999, 9998, 48, most), entry(1, 2, 840, 1<<32+500),
	}
	for _, cur := range ledgerCurrencies {
		list = append(list, entry(7, 8, cur, 1), entry(8, 7, cur, 1), entry(3, 1, cur, 9), entry(1, 26, cur, 7), entry(26, 1, cur, 14))
	}
	return list
}

func badEntries() []impl.Entry {
	list := []impl.Entry{{}, entry(1, 1, 840, 5), entry(9999, 9999, 840, 5), entry(1, 2, 840, 0), entry(1, 2, 840, -1), entry(1, 2, 840, -500), entry(1, 2, 840, most+1), entry(2, 1, 840, -most), entry(1, 2, 840, math.MinInt), entry(1, 2, 840, math.MaxInt), entry(1, 2, 840, 1<<62+500)}
	for _, acct := range []int{math.MinInt, -1, 0, 10000, 10001, 1<<32 + 1, math.MaxInt} {
		list = append(list, entry(acct, 2, 840, 5), entry(1, acct, 840, 5), entry(acct, acct, 840, 5))
	}
	for _, cur := range []int{math.MinInt, -1, 0, 1, 841, 999, 1<<32 + 840, math.MaxInt} {
		list = append(list, entry(1, 2, cur, 5))
	}
	return list
}

// someEntries are n entries that hang on n and first alone, of few accounts and currencies so that lines come and go.
func someEntries(n, first, accounts int) []impl.Entry {
	var list []impl.Entry
	state := uint32(first)*2654435761 + 12345
	next := func(below int) int {
		state = state*1664525 + 1013904223
		return int(state>>8) % below
	}
	for range n {
		from := 1 + next(accounts)
		to := 1 + (from+next(accounts-1))%accounts
		list = append(list, entry(from, to, ledgerCurrencies[next(3)], 1+next(4)))
	}
	return list
}

func TestLimitsOfBooks(t *testing.T) {
	if impl.MaxLines != mostLines {
		t.Error("MaxLines is", impl.MaxLines)
	}
}

func TestLedgerOk(t *testing.T) {
	for i, l := range goodLedgers() {
		if !impl.LedgerOk(l) {
			t.Errorf("ledger %d is refused: %s", i, shortLedger(l))
		}
		askLedgerOk(t, l)
	}
	for i, l := range badLedgers() {
		if impl.LedgerOk(l) {
			t.Errorf("ledger %d is taken: %s", i, shortLedger(l))
		}
		askLedgerOk(t, l)
	}
}

func TestLedgerOkByTheLine(t *testing.T) {
	for _, acct := range accountInts {
		for _, cur := range currencyInts {
			for _, amount := range edgeInts {
				askLedgerOk(t, ledger(line(acct, cur, amount)))
				askLedgerOk(t, ledger(line(acct, cur, amount), line(9997, cur, -amount)))
				askLedgerOk(t, ledger(line(3, cur, -amount), line(acct, cur, amount)))
				askLedgerOk(t, ledger(line(3, 840, 5), line(acct, cur, amount), line(9997, 840, -5)))
				askLedgerOk(t, ledger(line(3, 840, 5), line(4, 840, -5), line(acct, cur, amount), line(9997, cur, -amount)))
			}
		}
	}
}

func TestLedgerOkAccounts(t *testing.T) {
	for acct := -3; acct <= 10003; acct++ {
		other := 1
		if acct <= 1 {
			other = 2
		}
		lines := []impl.Line{line(acct, 392, 5), line(other, 392, -5)}
		slices.SortFunc(lines, func(a, b impl.Line) int { return a.Acct - b.Acct })
		if got := impl.LedgerOk(ledger(lines...)); got != within(acct, 1, 9999) {
			t.Errorf("account %d: %v", acct, got)
		}
	}
}

func TestLedgerOkCurrencies(t *testing.T) {
	for cur := -1100; cur <= 1100; cur++ {
		if got := impl.LedgerOk(ledger(line(1, cur, 5), line(2, cur, -5))); got != isCurrency(cur) {
			t.Errorf("currency %d: %v", cur, got)
		}
	}
}

func TestLedgerOkByTheCount(t *testing.T) {
	for n := 2; n <= mostLines+10; n++ {
		for _, step := range []int{1, 24} {
			if got := impl.LedgerOk(linesFrom(1, step, n, 978, 3)); got != (n <= mostLines) {
				t.Errorf("%d lines: %v", n, got)
			}
		}
	}
	for n := 2; n <= 60; n += 2 {
		if got := impl.LedgerOk(linesOfAll(n)); got != (8*n <= mostLines) {
			t.Errorf("%d lines of eight currencies: %v", 8*n, got)
		}
	}
}

// Each line in turn is changed, taken out, put twice, or changed for the next.
func TestLedgerOkWithOneLineChanged(t *testing.T) {
	for _, l := range goodLedgers() {
		for i, x := range l.Lines {
			for _, change := range []impl.Line{
				line(x.Acct, x.Cur, 0), line(x.Acct, x.Cur, x.Amount+1), line(x.Acct, x.Cur, x.Amount-1), line(x.Acct, x.Cur, -x.Amount),
				line(x.Acct, 840, x.Amount), line(x.Acct, 978, x.Amount), line(x.Acct, 0, x.Amount),
				line(0, x.Cur, x.Amount), line(1, x.Cur, x.Amount), line(9999, x.Cur, x.Amount), line(10000, x.Cur, x.Amount), line(x.Acct-1, x.Cur, x.Amount), line(x.Acct+1, x.Cur, x.Amount),
			} {
				changed := ledger(slices.Clone(l.Lines)...)
				changed.Lines[i] = change
				askLedgerOk(t, changed)
			}
			refusesLedger(t, "one lacking", ledger(slices.Delete(slices.Clone(l.Lines), i, i+1)...))
			refusesLedger(t, "one twice", ledger(slices.Insert(slices.Clone(l.Lines), i, x)...))
			refusesLedger(t, "one in two halves", twoHalves(l, i))
			if i > 0 {
				turned := ledger(slices.Clone(l.Lines)...)
				turned.Lines[i-1], turned.Lines[i] = turned.Lines[i], turned.Lines[i-1]
				refusesLedger(t, "two changed for each other", turned)
			}
		}
	}
}

func refusesLedger(t *testing.T, what string, l impl.Ledger) {
	t.Helper()
	if impl.LedgerOk(l) {
		t.Errorf("%s: %s is taken", what, shortLedger(l))
	}
}

// twoHalves has the line at place i as two amounts that make it up, so that all stays even.
func twoHalves(l impl.Ledger, i int) impl.Ledger {
	lines := slices.Insert(slices.Clone(l.Lines), i, l.Lines[i])
	half := 1
	if lines[i].Amount < 0 {
		half = -1
	}
	if lines[i].Amount == half {
		half *= 2
	}
	lines[i].Amount = half
	lines[i+1].Amount -= half
	return ledger(lines...)
}

func TestEntryOk(t *testing.T) {
	for _, e := range goodEntries() {
		if !impl.EntryOk(e) {
			t.Errorf("%v is refused", e)
		}
	}
	for _, e := range badEntries() {
		if impl.EntryOk(e) {
			t.Errorf("%v is taken", e)
		}
	}
	for _, from := range accountInts {
		for _, to := range accountInts {
			for _, cur := range currencyInts {
				for _, amount := range edgeInts {
					e := entry(from, to, cur, amount)
					if got, want := impl.EntryOk(e), wantEntryOk(e); got != want {
						t.Errorf("EntryOk of %v = %v, want %v", e, got, want)
					}
				}
			}
		}
	}
}

func TestEntryOkAccounts(t *testing.T) {
	for acct := -3; acct <= 10003; acct++ {
		for _, other := range []int{1, 5000, 9999} {
			want := within(acct, 1, 9999) && acct != other
			if impl.EntryOk(entry(acct, other, 840, 1)) != want || impl.EntryOk(entry(other, acct, 840, 1)) != want {
				t.Errorf("accounts %d and %d: not %v", acct, other, want)
			}
		}
	}
}

func TestBalanceOf(t *testing.T) {
	l := ledger(line(1, 392, -9), line(1, 840, 300), line(2, 840, -500), line(3, 392, 9), line(3, 840, 200))
	for _, c := range [][3]int{
		{1, 392, -9}, {1, 840, 300}, {2, 840, -500}, {3, 392, 9}, {3, 840, 200},
		{2, 392, 0}, {1, 978, 0}, {4, 840, 0}, {0, 840, 0}, {10000, 840, 0}, {-1, 840, 0}, {1, 0, 0}, {1, 841, 0}, {840, 1, 0}, {392, 1, 0}, {3, 3, 0}, {math.MinInt, math.MaxInt, 0}, {1 + 1<<32, 840, 0},
	} {
		if got := impl.BalanceOf(l, c[0], c[1]); got != c[2] {
			t.Errorf("BalanceOf(%d, %d) = %d, want %d", c[0], c[1], got, c[2])
		}
	}
	for _, l := range goodLedgers() {
		for _, x := range l.Lines {
			if got := impl.BalanceOf(l, x.Acct, x.Cur); got != x.Amount {
				t.Errorf("BalanceOf(%d, %d) = %d, want %d", x.Acct, x.Cur, got, x.Amount)
			}
		}
	}
}

// A ledger that is not LedgerOk is asked too: the amount of the first line of that account and currency.
func TestBalanceOfEverywhere(t *testing.T) {
	for _, l := range allLedgers() {
		for _, acct := range slices.Concat(accountInts, []int{3, 10, 20, 26, 400}) {
			for _, cur := range currencyInts {
				want := 0
				for _, x := range slices.Backward(l.Lines) {
					if x.Acct == acct && x.Cur == cur {
						want = x.Amount
					}
				}
				if got := impl.BalanceOf(l, acct, cur); got != want {
					t.Errorf("%s: BalanceOf(%d, %d) = %d, want %d", shortLedger(l), acct, cur, got, want)
				}
			}
		}
	}
}

func TestPostNamed(t *testing.T) {
	three := ledger(line(10, 840, 5), line(20, 840, 7), line(30, 840, -12))
	cases := []struct {
		what string
		l    impl.Ledger
		e    impl.Entry
		want impl.Ledger
	}{
		{"to no lines", ledger(), entry(2, 1, 840, 500), ledger(line(1, 840, 500), line(2, 840, -500))},
		{"to no lines, the other way", ledger(), entry(1, 2, 840, 500), ledger(line(1, 840, -500), line(2, 840, 500))},
		{"of the least and the last account", ledger(), entry(9999, 1, 392, most), ledger(line(1, 392, most), line(9999, 392, -most))},
		{"between two that are there", three, entry(10, 20, 840, 1), ledger(line(10, 840, 4), line(20, 840, 8), line(30, 840, -12))},
		{"anew ahead of all", three, entry(10, 9, 840, 1), ledger(line(9, 840, 1), line(10, 840, 4), line(20, 840, 7), line(30, 840, -12))},
		{"anew between two", three, entry(10, 11, 840, 1), ledger(line(10, 840, 4), line(11, 840, 1), line(20, 840, 7), line(30, 840, -12))},
		{"anew behind all", three, entry(10, 31, 840, 1), ledger(line(10, 840, 4), line(20, 840, 7), line(30, 840, -12), line(31, 840, 1))},
		{"anew ahead of all and behind all", three, entry(99, 1, 840, 3), ledger(line(1, 840, 3), line(10, 840, 5), line(20, 840, 7), line(30, 840, -12), line(99, 840, -3))},
		{"anew ahead of all by its currency", three, entry(20, 10, 826, 1), ledger(line(10, 826, 1), line(10, 840, 5), line(20, 826, -1), line(20, 840, 7), line(30, 840, -12))},
		{"anew behind all by its currency", three, entry(20, 30, 978, 1), ledger(line(10, 840, 5), line(20, 840, 7), line(20, 978, -1), line(30, 840, -12), line(30, 978, 1))},
		{"from a line that comes to 0", three, entry(10, 20, 840, 5), ledger(line(20, 840, 12), line(30, 840, -12))},
		{"to a line that comes to 0", three, entry(20, 30, 840, 12), ledger(line(10, 840, 5), line(20, 840, -5))},
		{"from a line to 0, to one anew", three, entry(20, 25, 840, 7), ledger(line(10, 840, 5), line(25, 840, 7), line(30, 840, -12))},
		{"to a line to 0, from one anew", three, entry(40, 30, 840, 12), ledger(line(10, 840, 5), line(20, 840, 7), line(40, 840, -12))},
		{"both come to 0", ledger(line(1, 840, 500), line(2, 840, -500)), entry(1, 2, 840, 500), ledger()},
		{"both come to 0 in the midst", ledger(line(1, 840, 3), line(2, 840, 500), line(3, 840, -500), line(4, 840, -3)), entry(2, 3, 840, 500), ledger(line(1, 840, 3), line(4, 840, -3))},
		{"both come to 0 in one currency of two", ledger(line(1, 36, 5), line(1, 840, 5), line(2, 36, -5), line(2, 840, -5)), entry(1, 2, 36, 5), ledger(line(1, 840, 5), line(2, 840, -5))},
		{"through 0 to the other side", ledger(line(1, 840, 500), line(2, 840, -500)), entry(1, 2, 840, 501), ledger(line(1, 840, -1), line(2, 840, 1))},
		{"from one end to the other", ledger(line(1, 840, most), line(2, 840, -most)), entry(1, 2, 840, most), ledger()},
		{"to just MaxMoney on both sides", ledger(line(10, 840, most-5), line(20, 840, 5-most)), entry(20, 10, 840, 5), ledger(line(10, 840, most), line(20, 840, -most))},
	}
	for _, c := range cases {
		if got, ok := impl.Post(c.l, c.e); !ok || !sameLedger(got, c.want) {
			t.Errorf("%s: %v, %v; want %v, true", c.what, got.Lines, ok, c.want.Lines)
		}
		askPost(t, c.l, c.e)
		askUndone(t, c.l, c.e)
		if back, ok := impl.Post(c.want, impl.Back(c.e)); !ok || !sameLedger(back, c.l) {
			t.Errorf("%s, and back: %v, %v; want %v, true", c.what, back.Lines, ok, c.l.Lines)
		}
	}
}

func TestPost(t *testing.T) {
	for _, l := range allLedgers() {
		for _, e := range slices.Concat(goodEntries(), badEntries()) {
			askPost(t, l, e)
			askUndone(t, l, e)
		}
	}
}

func refusesPost(t *testing.T, what string, l impl.Ledger, e impl.Entry) {
	t.Helper()
	if got, ok := impl.Post(l, e); ok || !sameLedger(got, l) {
		t.Errorf("%s: Post of %v to %s: %s, %v", what, e, shortLedger(l), shortLedger(got), ok)
	}
}

func TestPostRefuses(t *testing.T) {
	for _, l := range badLedgers() {
		for _, e := range goodEntries() {
			refusesPost(t, "a ledger that is none", l, e)
		}
	}
	for _, l := range goodLedgers() {
		for _, e := range badEntries() {
			refusesPost(t, "an entry that is none", l, e)
		}
	}
	// What comes out would be as told, what goes in is not.
	refusesPost(t, "one line made even", ledger(line(1, 840, 5)), entry(1, 2, 840, 5))
	refusesPost(t, "a line of 0 made another", ledger(line(1, 840, 0)), entry(1, 2, 840, 5))
	refusesPost(t, "two of 0 made others", ledger(line(1, 840, 0), line(2, 840, 0)), entry(1, 2, 840, 5))
	refusesPost(t, "two beyond made amounts", ledger(line(1, 840, most+1), line(2, 840, -most-1)), entry(1, 2, 840, 1))
	refusesPost(t, "two too many that go", linesFrom(1, 1, mostLines+2, 840, 7), entry(1, 2, 840, 7))
	refusesPost(t, "two that descend and go", ledger(line(2, 840, 5), line(1, 840, -5)), entry(2, 1, 840, 5))
}

func TestPostByTheAccounts(t *testing.T) {
	l := ledger(line(1, 840, 500), line(5000, 840, -1), line(9999, 840, -499))
	for _, from := range accountInts {
		for _, to := range accountInts {
			for _, amount := range []int{1, 499, 500, 501} {
				_, ok := askPost(t, l, entry(from, to, 840, amount))
				if want := isAccount(from) && isAccount(to) && from != to; ok != want {
					t.Errorf("from %d to %d: %v", from, to, ok)
				}
			}
		}
	}
}

// The two lines stand as far as near from the ends of what is an amount, and the entry reaches just there or one beyond.
func TestPostByTheAmounts(t *testing.T) {
	heights := []int{-most, 1 - most, -most / 2, -5, -1, 0, 1, 5, most / 2, most - 1, most}
	amounts := []int{math.MinInt, -1, 0, 1, 2, 5, 6, most/2 - 1, most / 2, most/2 + 1, most - 1, most, most + 1, math.MaxInt}
	for _, from := range heights {
		for _, to := range heights {
			l := ledgerOfTwo(from, to)
			for _, amount := range amounts {
				_, ok := askPost(t, l, entry(10, 20, 840, amount))
				if want := within(amount, 1, most) && from-amount >= -most && to+amount <= most; ok != want {
					t.Errorf("lines of %d and %d, an amount of %d: %v", from, to, amount, ok)
				}
				askPost(t, l, entry(20, 10, 840, amount))
				askUndone(t, l, entry(10, 20, 840, amount))
				askUndone(t, l, entry(20, 10, 840, amount))
			}
		}
	}
}

// ledgerOfTwo has these amounts in the accounts 10 and 20 (no line where one is 0), and what makes them even behind these.
func ledgerOfTwo(from, to int) impl.Ledger {
	var l impl.Ledger
	for i, amount := range []int{from, to, -from, -to} {
		if amount != 0 {
			l.Lines = append(l.Lines, line(10+10*i, 840, amount))
		}
	}
	return l
}

func TestPostByTheCount(t *testing.T) {
	// Accounts 1, 3, 5 .. have a line, those between them none.
	for n := mostLines - 4; n <= mostLines; n++ {
		l := linesFrom(1, 2, n, 840, 7)
		if !impl.LedgerOk(l) {
			t.Fatalf("%d lines are no ledger", n)
		}
		last := l.Lines[n-1]
		cases := []struct {
			what string
			e    impl.Entry
			more int
		}{
			{"two that stay", entry(5, 7, 840, 1), 0},
			{"one that stays, one anew", entry(5, 8, 840, 1), 1},
			{"one anew, one that stays", entry(8, 5, 840, 1), 1},
			{"two anew", entry(6, 8, 840, 1), 2},
			{"two anew behind all", entry(last.Acct+1, last.Acct+2, 840, 1), 2},
			{"two anew by their currency", entry(5, 7, 392, 1), 2},
			{"one that goes, one anew", entry(5, 6, 840, 7), 0},
			{"one anew, one that goes", entry(6, 7, 840, 5), 1},
			{"one that goes, one that stays", entry(5, 9, 840, 7), -1},
		}
		for _, c := range cases {
			// The lines of n that is odd begin with other amounts, which does not matter to the accounts from 5 on.
			got, ok := askPost(t, l, c.e)
			if l.Lines[3].Amount != -7 || l.Lines[2].Amount != 7 {
				t.Fatalf("%d lines are not as the cases want them", n)
			}
			if want := n+c.more <= mostLines; ok != want || ok && len(got.Lines) != n+c.more {
				t.Errorf("%d lines, %s: %d lines, %v", n, c.what, len(got.Lines), ok)
			}
			askUndone(t, l, c.e)
		}
		if got, ok := askPost(t, l, entry(5, 7, 840, 7)); !ok || len(got.Lines) != n-2 {
			t.Errorf("%d lines, two that go: %d lines, %v", n, len(got.Lines), ok)
		}
		if got, ok := askPost(t, l, entry(6, 7, 840, 7)); !ok || len(got.Lines) != n {
			t.Errorf("%d lines, one anew, one that goes: %d lines, %v", n, len(got.Lines), ok)
		}
	}
}

// A line comes anew at each place of a full ledger but one.
func TestPostAtEachPlace(t *testing.T) {
	for _, n := range []int{2, 3, 10, mostLines - 1} {
		l := linesFrom(2, 2, n, 840, 7)
		for acct := 1; acct <= 2*n+2; acct++ {
			for _, e := range []impl.Entry{entry(acct, 4, 840, 3), entry(4, acct, 840, 3)} {
				got, ok := askPost(t, l, e)
				if want := acct != 4; ok != want {
					t.Errorf("%d lines, account %d: %v", n, acct, ok)
				}
				if acct%2 == 1 && len(got.Lines) != n+1 {
					t.Errorf("%d lines, account %d anew: %d lines", n, acct, len(got.Lines))
				}
				askUndone(t, l, e)
			}
		}
	}
}

func TestPostLeavesOtherLines(t *testing.T) {
	for _, l := range goodLedgers() {
		for _, e := range goodEntries() {
			posted, ok := impl.Post(l, e)
			if !ok {
				continue
			}
			if impl.BalanceOf(posted, e.From, e.Cur) != impl.BalanceOf(l, e.From, e.Cur)-e.Amount || impl.BalanceOf(posted, e.To, e.Cur) != impl.BalanceOf(l, e.To, e.Cur)+e.Amount {
				t.Errorf("Post of %v to %s: %s", e, shortLedger(l), shortLedger(posted))
			}
			touched := func(x impl.Line) bool { return x.Cur == e.Cur && (x.Acct == e.From || x.Acct == e.To) }
			before := slices.DeleteFunc(slices.Clone(l.Lines), touched)
			after := slices.DeleteFunc(slices.Clone(posted.Lines), touched)
			if !slices.Equal(before, after) {
				t.Errorf("Post of %v to %s: another line is changed: %s", e, shortLedger(l), shortLedger(posted))
			}
		}
	}
}

func TestManyPosts(t *testing.T) {
	for _, accounts := range []int{2, 3, 5, 12} {
		for first := range 20 {
			var l impl.Ledger
			list := someEntries(120, first, accounts)
			for _, e := range list {
				next, ok := askPost(t, l, e)
				if !ok {
					t.Fatalf("Post of %v to %s is refused", e, shortLedger(l))
				}
				askUndone(t, l, e)
				l = next
			}
			if all, ok := impl.PostAll(impl.Ledger{}, list); !ok || !sameLedger(all, l) {
				t.Errorf("all in a row: %s, %v; one by one: %s", shortLedger(all), ok, shortLedger(l))
			}
			for _, e := range slices.Backward(list) {
				l, _ = impl.Post(l, impl.Back(e))
			}
			if len(l.Lines) != 0 {
				t.Errorf("all undone: %s", shortLedger(l))
			}
		}
	}
}

// A ledger is filled to MaxLines by its posts and emptied by their backs.
func TestPostsFillTheBooks(t *testing.T) {
	var l impl.Ledger
	var list []impl.Entry
	for i := range mostLines / 2 {
		e := entry(9999-i, i+1, 840, i+1)
		next, ok := askPost(t, l, e)
		if !ok || len(next.Lines) != 2*i+2 {
			t.Fatalf("post %d: %d lines, %v", i, len(next.Lines), ok)
		}
		l, list = next, append(list, e)
	}
	refusesPost(t, "a line more than MaxLines", l, entry(1, 5000, 840, 2))
	refusesPost(t, "two lines more than MaxLines", l, entry(5000, 5001, 840, 1))
	if all, ok := impl.PostAll(impl.Ledger{}, list); !ok || !sameLedger(all, l) {
		t.Errorf("all in a row: %s, %v", shortLedger(all), ok)
	}
	if all, ok := impl.PostAll(impl.Ledger{}, append(slices.Clone(list), entry(1, 5000, 840, 2))); ok || len(all.Lines) != 0 {
		t.Errorf("all and one more: %s, %v", shortLedger(all), ok)
	}
	var backs []impl.Entry
	for _, e := range slices.Backward(list) {
		backs = append(backs, impl.Back(e))
	}
	if none, ok := impl.PostAll(l, backs); !ok || len(none.Lines) != 0 {
		t.Errorf("all undone: %s, %v", shortLedger(none), ok)
	}
}

func TestPostAllNamed(t *testing.T) {
	l := ledger(line(1, 840, 500), line(2, 840, -500))
	high := ledger(line(1, 840, most), line(2, 840, -most))
	cases := []struct {
		what string
		l    impl.Ledger
		list []impl.Entry
		want string
		ok   bool
	}{
		{"none", l, nil, "1 840 5.00;2 840 -5.00", true},
		{"none to none", ledger(), nil, "-", true},
		{"one", l, []impl.Entry{entry(1, 3, 840, 200)}, "1 840 3.00;2 840 -5.00;3 840 2.00", true},
		{"two", l, []impl.Entry{entry(1, 3, 840, 200), entry(1, 3, 392, 9)}, "1 392 -9;1 840 3.00;2 840 -5.00;3 392 9;3 840 2.00", true},
		{"one that is undone", l, []impl.Entry{entry(1, 2, 840, 500), entry(2, 1, 840, 500)}, "1 840 5.00;2 840 -5.00", true},
		{"the second is none", l, []impl.Entry{entry(1, 3, 840, 200), entry(1, 1, 840, 5)}, "1 840 5.00;2 840 -5.00", false},
		{"the first is none", l, []impl.Entry{entry(1, 1, 840, 5), entry(1, 3, 840, 200)}, "1 840 5.00;2 840 -5.00", false},
		{"the one in the midst is none", l, []impl.Entry{entry(1, 3, 840, 200), entry(1, 3, 841, 5), entry(1, 3, 840, 200)}, "1 840 5.00;2 840 -5.00", false},
		{"beyond MaxMoney on the way alone", high, []impl.Entry{entry(2, 1, 840, 1), entry(1, 2, 840, 1)}, impl.LedgerText(high), false},
		{"the same, the other way round", high, []impl.Entry{entry(1, 2, 840, 1), entry(2, 1, 840, 1)}, impl.LedgerText(high), true},
		{"the same in one currency of two", high, []impl.Entry{entry(2, 1, 978, 1), entry(2, 1, 840, 1)}, impl.LedgerText(high), false},
	}
	for _, c := range cases {
		if got, ok := impl.PostAll(c.l, c.list); ok != c.ok || impl.LedgerText(got) != c.want {
			t.Errorf("%s: %s, %v; want %s, %v", c.what, impl.LedgerText(got), ok, c.want, c.ok)
		}
		askPostAll(t, c.l, c.list)
	}
}

// More lines than MaxLines on the way alone: what a later entry would let go does not help.
func TestPostAllByTheCount(t *testing.T) {
	full := linesFrom(1, 2, mostLines, 840, 7)
	first, second := entry(1, 2, 840, 1), entry(1, 4, 840, 6)
	lets := entry(5, 7, 840, 7)
	for _, c := range []struct {
		list []impl.Entry
		ok   bool
	}{
		{[]impl.Entry{first}, false},
		{[]impl.Entry{first, lets}, false},
		{[]impl.Entry{lets, first}, true},
		{[]impl.Entry{lets, first, second}, true},
		{[]impl.Entry{lets, first, impl.Back(lets)}, false},
		{[]impl.Entry{lets, impl.Back(lets), first}, false},
		{[]impl.Entry{lets, impl.Back(lets)}, true},
		{[]impl.Entry{first, impl.Back(first)}, false},
	} {
		if got, ok := askPostAll(t, full, c.list); ok != c.ok || !ok && !sameLedger(got, full) {
			t.Errorf("%v: %s, %v", c.list, shortLedger(got), ok)
		}
	}
}

// Each wrong entry at each place of a list that is else taken.
func TestPostAllIsAllOrNone(t *testing.T) {
	for _, l := range goodLedgers() {
		if len(l.Lines) > 10 {
			continue
		}
		list := []impl.Entry{entry(7, 8, 36, 1), entry(8, 7, 36, 1), entry(50, 60, 392, 4), entry(60, 70, 392, 4), entry(70, 80, 414, 2)}
		if _, ok := askPostAll(t, l, list); !ok {
			t.Fatalf("the list is refused by %s", shortLedger(l))
		}
		for i := range len(list) + 1 {
			for _, wrong := range badEntries() {
				with := slices.Insert(slices.Clone(list), i, wrong)
				if got, ok := impl.PostAll(l, with); ok || !sameLedger(got, l) {
					t.Errorf("%v at place %d: %s, %v; want %s, false", wrong, i, shortLedger(got), ok, shortLedger(l))
				}
			}
		}
	}
}

func TestPostAllIsOneByOne(t *testing.T) {
	for _, l := range allLedgers() {
		for first := range 6 {
			for _, n := range []int{0, 1, 2, 7} {
				askPostAll(t, l, someEntries(n, first, 9))
			}
		}
		for i, e := range goodEntries() {
			askPostAll(t, l, []impl.Entry{e})
			askPostAll(t, l, goodEntries()[:i])
			askPostAll(t, l, []impl.Entry{e, e, impl.Back(e), e})
		}
		for _, e := range badEntries() {
			askPostAll(t, l, []impl.Entry{e})
		}
	}
}

// No entry is false where there is none, whatever the ledger is.
func TestPostAllOfNothing(t *testing.T) {
	for _, l := range allLedgers() {
		for _, list := range [][]impl.Entry{nil, {}} {
			if got, ok := impl.PostAll(l, list); !ok || !sameLedger(got, l) {
				t.Errorf("%s: %s, %v", shortLedger(l), shortLedger(got), ok)
			}
		}
	}
	for _, l := range badLedgers() {
		if got, ok := impl.PostAll(l, goodEntries()); ok || !sameLedger(got, l) {
			t.Errorf("%s, which is none: %s, %v", shortLedger(l), shortLedger(got), ok)
		}
	}
}

func TestPostAllIsUndone(t *testing.T) {
	for _, l := range goodLedgers() {
		for first := range 10 {
			list := someEntries(15, first, 8)
			posted, ok := impl.PostAll(l, list)
			if !ok {
				continue
			}
			var backs []impl.Entry
			for _, e := range slices.Backward(list) {
				backs = append(backs, impl.Back(e))
			}
			if again, ok := impl.PostAll(posted, backs); !ok || !sameLedger(again, l) {
				t.Errorf("%s and back: %s, %v", shortLedger(l), shortLedger(again), ok)
			}
			if again, ok := impl.PostAll(l, append(slices.Clone(list), backs...)); !ok || !sameLedger(again, l) {
				t.Errorf("%s and back in one: %s, %v", shortLedger(l), shortLedger(again), ok)
			}
		}
	}
}

func TestPostAllOfVeryMany(t *testing.T) {
	list := slices.Repeat([]impl.Entry{entry(1, 2, 840, 5), entry(2, 1, 840, 5)}, 5000)
	if got, ok := impl.PostAll(impl.Ledger{}, list); !ok || len(got.Lines) != 0 {
		t.Errorf("an even number: %s, %v", shortLedger(got), ok)
	}
	if got, ok := impl.PostAll(impl.Ledger{}, list[1:]); !ok || impl.LedgerText(got) != "1 840 0.05;2 840 -0.05" {
		t.Errorf("an odd number: %s, %v", shortLedger(got), ok)
	}
}

func TestBack(t *testing.T) {
	for _, from := range accountInts {
		for _, to := range accountInts {
			for _, cur := range currencyInts {
				for _, amount := range []int{math.MinInt, -1, 0, 1, most, most + 1, math.MaxInt} {
					e := entry(from, to, cur, amount)
					back := impl.Back(e)
					if back != entry(to, from, cur, amount) {
						t.Errorf("Back of %v = %v", e, back)
					}
					if impl.Back(back) != e || impl.EntryOk(back) != impl.EntryOk(e) {
						t.Errorf("Back of %v and back: %v", e, impl.Back(back))
					}
				}
			}
		}
	}
}

func TestWorth(t *testing.T) {
	mixed := ledger(line(1, 392, -9), line(1, 840, 300), line(2, 840, -500), line(3, 392, 9), line(3, 840, 200))
	cases := []struct {
		l    impl.Ledger
		cur  int
		want int
	}{
		{ledger(), 840, 0},
		{ledger(), 0, 0},
		{mixed, 840, 500},
		{mixed, 392, 9},
		{mixed, 978, 0},
		{mixed, 0, 0},
		{mixed, -840, 0},
		{mixed, 1, 0},
		{ledger(line(1, 840, most), line(2, 840, -most)), 840, most},
		{steepLines(4), 840, 2 * most},
		{steepLines(mostLines), 840, mostLines / 2 * most},
		{linesFrom(1, 1, mostLines, 840, 7), 840, mostLines / 2 * 7},
		// A ledger that is none is asked too.
		{ledger(line(1, 840, 5)), 840, 5},
		{ledger(line(1, 840, -5)), 840, 0},
		{ledger(line(2, 840, 5), line(1, 840, 6), line(2, 840, 7)), 840, 18},
		{ledger(line(1, 840, 0), line(1, 978, 1)), 840, 0},
	}
	for _, c := range cases {
		if got := impl.Worth(c.l, c.cur); got != c.want {
			t.Errorf("Worth of %s in %d = %d, want %d", shortLedger(c.l), c.cur, got, c.want)
		}
	}
}

// The amounts above 0 are as much as those below it, as all are even.
func TestWorthIsEven(t *testing.T) {
	for _, l := range goodLedgers() {
		for _, cur := range currencyInts {
			above, below := 0, 0
			for _, x := range l.Lines {
				if x.Cur == cur {
					above, below = above+max(x.Amount, 0), below+max(-x.Amount, 0)
				}
			}
			if got := impl.Worth(l, cur); got != above || got != below {
				t.Errorf("Worth of %s in %d = %d; above 0 %d, below 0 %d", shortLedger(l), cur, got, above, below)
			}
		}
	}
}

func TestAccounts(t *testing.T) {
	cases := []struct {
		l    impl.Ledger
		want []int
	}{
		{ledger(), nil},
		{ledger(line(1, 840, 500), line(2, 840, -500)), []int{1, 2}},
		{ledger(line(1, 392, -9), line(1, 840, 300), line(2, 840, -500), line(3, 392, 9), line(3, 840, 200)), []int{1, 2, 3}},
		{ledger(line(1, 840, 1), line(9999, 840, -1)), []int{1, 9999}},
		{linesOfAll(50), daysFrom(1, 1, 50)},
		{linesFrom(1, 25, mostLines, 840, 7), daysFrom(1, 25, mostLines)},
		{linesFrom(9600, 1, mostLines, 48, most), daysFrom(9600, 1, mostLines)},
		// A ledger that is none is asked too: each account once, ascending.
		{ledger(line(2, 840, 5), line(1, 840, -5)), []int{1, 2}},
		{ledger(line(3, 840, 5), line(1, 840, -5), line(3, 978, 4), line(2, 36, 1), line(1, 840, 7)), []int{1, 2, 3}},
		{ledger(line(5, 840, 0)), []int{5}},
	}
	for _, c := range cases {
		if got := impl.Accounts(c.l); !slices.Equal(got, c.want) {
			t.Errorf("Accounts of %s = %v, want %v", shortLedger(c.l), got, c.want)
		}
	}
	for _, l := range allLedgers() {
		got := impl.Accounts(l)
		for i := range got {
			if i > 0 && got[i-1] >= got[i] {
				t.Errorf("Accounts of %s do not ascend: %v", shortLedger(l), got)
			}
			if !slices.ContainsFunc(l.Lines, func(x impl.Line) bool { return x.Acct == got[i] }) {
				t.Errorf("Accounts of %s: %d has no line", shortLedger(l), got[i])
			}
		}
		for _, x := range l.Lines {
			if slices.Contains(got, x.Acct) != isAccount(x.Acct) {
				t.Errorf("Accounts of %s: %d is listed: %v", shortLedger(l), x.Acct, !isAccount(x.Acct))
			}
		}
	}
}

// A line may stand by a number that is no account where the ledger is none: it is not listed, whatever stands beside it.
func TestAccountsListsAccountsAlone(t *testing.T) {
	cases := []struct {
		l    impl.Ledger
		want []int
	}{
		{ledger(line(0, 840, 5)), nil},
		{ledger(line(1, 840, 5)), []int{1}},
		{ledger(line(9999, 840, 5)), []int{9999}},
		{ledger(line(10000, 840, 5)), nil},
		{ledger(line(-3, 840, 5)), nil},
		{ledger(line(-3, 840, 5), line(0, 840, -5)), nil},
		{ledger(line(0, 840, 5), line(1, 840, -5)), []int{1}},
		{ledger(line(9999, 840, 5), line(10000, 840, -5)), []int{9999}},
		{ledger(line(-3, 840, 5), line(1, 840, -5), line(9999, 392, 7), line(10000, 392, -7)), []int{1, 9999}},
		{ledger(line(10000, 840, 5), line(9999, 840, 5), line(0, 840, 5), line(1, 840, 5), line(-3, 840, 5), line(9999, 36, 5), line(0, 36, 5)), []int{1, 9999}},
	}
	for _, c := range cases {
		if got := impl.Accounts(c.l); !slices.Equal(got, c.want) {
			t.Errorf("Accounts of %s = %v, want %v", shortLedger(c.l), got, c.want)
		}
	}
	for _, acct := range accountInts {
		for _, cur := range []int{0, 392, 840} {
			for _, amount := range []int{math.MinInt, -5, 0, 5, math.MaxInt} {
				var want []int
				if isAccount(acct) {
					want = []int{acct}
				}
				l := ledger(line(acct, cur, amount))
				if got := impl.Accounts(l); !slices.Equal(got, want) {
					t.Errorf("Accounts of %s = %v, want %v", shortLedger(l), got, want)
				}
			}
		}
	}
}

// Each number round both ends of the accounts, all in one ledger, the greatest first.
func TestAccountsByTheNumber(t *testing.T) {
	var l impl.Ledger
	for acct := 10003; acct >= -3; acct-- {
		l.Lines = append(l.Lines, line(acct, 840, 1))
	}
	if got := impl.Accounts(l); !slices.Equal(got, daysFrom(1, 1, lastAccount)) {
		t.Errorf("%d are listed, want 1 .. %d", len(got), lastAccount)
	}
}

// An account whose only line comes to 0 has none any more.
func TestAccountsComeAndGo(t *testing.T) {
	l, _ := impl.PostAll(impl.Ledger{}, []impl.Entry{entry(1, 2, 840, 5), entry(2, 3, 840, 5), entry(1, 2, 392, 7)})
	if got := impl.Accounts(l); !slices.Equal(got, []int{1, 2, 3}) || impl.BalanceOf(l, 2, 840) != 0 || len(l.Lines) != 4 {
		t.Errorf("%v of %s", got, shortLedger(l))
	}
	l, _ = impl.Post(l, entry(2, 1, 392, 7))
	if got := impl.Accounts(l); !slices.Equal(got, []int{1, 3}) {
		t.Errorf("%v of %s", got, shortLedger(l))
	}
	l, _ = impl.Post(l, entry(3, 1, 840, 5))
	if got := impl.Accounts(l); len(got) != 0 {
		t.Errorf("%v of %s", got, shortLedger(l))
	}
}

func TestLedgerText(t *testing.T) {
	cases := []struct {
		l    impl.Ledger
		want string
	}{
		{ledger(), "-"},
		{impl.Ledger{Lines: []impl.Line{}}, "-"},
		{ledger(line(1, 840, 500), line(2, 840, -500)), "1 840 5.00;2 840 -5.00"},
		{ledger(line(1, 840, 1), line(9999, 840, -1)), "1 840 0.01;9999 840 -0.01"},
		{ledger(line(7, 48, 1), line(7, 392, -1), line(8, 48, -1), line(8, 392, 1)), "7 48 0.001;7 392 -1;8 48 -0.001;8 392 1"},
		{ledger(line(10, 36, most), line(20, 36, -most)), "10 36 10000000000.00;20 36 -10000000000.00"},
		{ledger(line(10, 840, 5), line(20, 840, 7), line(30, 840, -12)), "10 840 0.05;20 840 0.07;30 840 -0.12"},
	}
	for _, c := range cases {
		if got := impl.LedgerText(c.l); got != c.want {
			t.Errorf("LedgerText of %s = %q, want %q", shortLedger(c.l), got, c.want)
		}
	}
	for _, l := range badLedgers() {
		if got := impl.LedgerText(l); got != "" {
			t.Errorf("LedgerText of %s, which is none: %q", shortLedger(l), got)
		}
	}
	for _, l := range allLedgers() {
		if got, want := impl.LedgerText(l), wantLedgerText(l); got != want {
			t.Errorf("LedgerText of %s = %q, want %q", shortLedger(l), got, want)
		}
	}
}

// The lines are read again from the text.
func TestLedgerTextTellsAll(t *testing.T) {
	for _, l := range goodLedgers() {
		text := impl.LedgerText(l)
		if len(l.Lines) == 0 {
			continue
		}
		var again impl.Ledger
		for _, part := range strings.Split(text, ";") {
			words := strings.Split(part, " ")
			if len(words) != 3 {
				t.Fatalf("%q has %d words", part, len(words))
			}
			acct, _ := strconv.Atoi(words[0])
			cur, _ := strconv.Atoi(words[1])
			amount, ok := impl.ReadMoney(words[2], cur)
			if !ok {
				t.Errorf("%q tells no amount", part)
			}
			again.Lines = append(again.Lines, line(acct, cur, amount))
		}
		if !sameLedger(again, l) {
			t.Errorf("%s is read again as %s", shortLedger(l), shortLedger(again))
		}
	}
}

// Every function is asked with anything, and answers.
func TestBooksAnswerAnything(t *testing.T) {
	var odd []impl.Line
	for i, acct := range accountInts {
		for k, cur := range currencyInts {
			odd = append(odd, line(acct, cur, edgeInts[(7*i+3*k)%len(edgeInts)]))
		}
	}
	for _, from := range []int{0, 1, 7, 100, 300} {
		for _, n := range []int{0, 1, 2, 3, 50, len(odd)} {
			l := ledger(odd[min(from, len(odd)):min(from+n, len(odd))]...)
			askLedgerOk(t, l)
			if got, want := impl.LedgerText(l), wantLedgerText(l); got != want {
				t.Errorf("LedgerText of %s = %q, want %q", shortLedger(l), got, want)
			}
			for _, x := range odd {
				impl.BalanceOf(l, x.Acct, x.Cur)
				impl.Worth(l, x.Cur)
				e := entry(x.Acct, x.Amount, x.Cur, x.Amount)
				askPost(t, l, e)
				askPostAll(t, l, []impl.Entry{e, impl.Back(e)})
				askPost(t, ledger(), e)
			}
			if got := impl.Accounts(l); !slices.IsSorted(got) || !allAccounts(got) {
				t.Errorf("Accounts of %s = %v", shortLedger(l), got)
			}
		}
	}
}

// askBooks calls every function that is handed a list.
func askBooks(l impl.Ledger, list []impl.Entry) {
	impl.LedgerOk(l)
	impl.LedgerText(l)
	impl.Accounts(l)
	impl.PostAll(l, list)
	for _, cur := range []int{0, 48, 392, 840} {
		impl.Worth(l, cur)
		impl.BalanceOf(l, 1, cur)
	}
	for _, e := range list {
		impl.Post(l, e)
	}
}

func TestBooksAreNotWrittenInto(t *testing.T) {
	spare := []impl.Line{line(-7, 840, 3), line(1, 840, 77), {}}
	spareEntries := []impl.Entry{entry(1, 2, 840, 3), entry(-5, 7, 1, 1), {}}
	for _, l := range allLedgers() {
		for _, list := range [][]impl.Entry{nil, goodEntries()[:5], goodEntries()[10:40], badEntries()[:4], someEntries(10, 3, 9)} {
			lines := append(slices.Clone(l.Lines), spare...)
			entries := append(slices.Clone(list), spareEntries...)
			keptLines, keptEntries := slices.Clone(lines), slices.Clone(entries)
			askBooks(impl.Ledger{Lines: lines[:len(l.Lines)]}, entries[:len(list)])
			if !slices.Equal(lines, keptLines) {
				t.Errorf("%s was written into", shortLedger(l))
			}
			if !slices.Equal(entries, keptEntries) {
				t.Errorf("%d entries were written into", len(list))
			}
		}
	}
}

// overwrite writes into all the room that a list has.
func overwrite(l impl.Ledger) {
	room := l.Lines[:cap(l.Lines)]
	for i := range room {
		room[i] = line(-1, -2, -3)
	}
}

func askNewLedger(t *testing.T, what string, l impl.Ledger, post func(impl.Ledger) (impl.Ledger, bool)) {
	t.Helper()
	lines := append(slices.Clone(l.Lines), line(5, 5, 5), line(6, 6, 6))
	kept := slices.Clone(lines)
	handed := impl.Ledger{Lines: lines[:len(l.Lines)]}
	one, _ := post(handed)
	two, _ := post(handed)
	want := slices.Clone(two.Lines)
	overwrite(one)
	if !slices.Equal(lines, kept) {
		t.Errorf("%s: the answer shares memory with %s", what, shortLedger(l))
	}
	if !slices.Equal(two.Lines, want) {
		t.Errorf("%s: two answers for %s share memory", what, shortLedger(l))
	}
	overwrite(handed)
	if !slices.Equal(two.Lines, want) {
		t.Errorf("%s: what is written into %s later is in the answer", what, shortLedger(l))
	}
}

func TestBooksAreNewMemory(t *testing.T) {
	for _, l := range allLedgers() {
		for _, e := range slices.Concat(goodEntries()[:6], badEntries()[:3]) {
			askNewLedger(t, "Post", l, func(l impl.Ledger) (impl.Ledger, bool) { return impl.Post(l, e) })
		}
		for _, list := range [][]impl.Entry{nil, goodEntries()[:1], goodEntries()[:2], badEntries()[:1], {goodEntries()[0], {}}, someEntries(9, 1, 9)} {
			askNewLedger(t, "PostAll", l, func(l impl.Ledger) (impl.Ledger, bool) { return impl.PostAll(l, list) })
		}
		one, two := impl.Accounts(l), impl.Accounts(l)
		want := slices.Clone(two)
		for i := range one[:cap(one)] {
			one[:cap(one)][i] = -1
		}
		if !slices.Equal(two, want) {
			t.Errorf("two answers of Accounts for %s share memory", shortLedger(l))
		}
	}
}

func TestBooksAreNotKept(t *testing.T) {
	good := ledger(line(1, 840, 500), line(2, 840, -500))
	for _, l := range allLedgers() {
		askBooks(l, []impl.Entry{entry(1, 2, 840, 7), entry(2, 3, 392, 7), {}})
		if got, ok := impl.Post(good, entry(1, 3, 840, 200)); !ok || impl.LedgerText(got) != "1 840 3.00;2 840 -5.00;3 840 2.00" {
			t.Errorf("behind %s: %s, %v", shortLedger(l), shortLedger(got), ok)
		}
		if got, ok := impl.Post(impl.Ledger{}, entry(1, 3, 840, 200)); !ok || impl.LedgerText(got) != "1 840 -2.00;3 840 2.00" {
			t.Errorf("behind %s: %s, %v", shortLedger(l), shortLedger(got), ok)
		}
	}
}

// The same is answered each time, though the lines are kept in a map.
func TestBooksAnswerTheSame(t *testing.T) {
	for _, l := range goodLedgers() {
		for _, e := range goodEntries()[:6] {
			first, _ := impl.Post(l, e)
			for range 5 {
				if again, _ := impl.Post(l, e); !sameLedger(again, first) || impl.LedgerText(again) != impl.LedgerText(first) {
					t.Errorf("Post of %v to %s: %s and then %s", e, shortLedger(l), shortLedger(first), shortLedger(again))
				}
			}
		}
	}
}
