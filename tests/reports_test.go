package tests

import (
	"fmt"
	"maps"
	"math/big"
	"slices"
	"strconv"
	"strings"
	"sync"
	"testing"

	"loop.example/g00126/impl"
)

// partiesOf are the numbers that a case names as its sides, each once.
func partiesOf(c impl.Case) []int {
	if c.Issuer == c.Acquirer {
		return []int{c.Issuer}
	}
	return []int{c.Issuer, c.Acquirer}
}

// namedAccounts are all numbers that a book names as accounts, and the house, ascending.
func namedAccounts(b impl.Book) []int {
	list := []int{theHouse}
	for _, c := range b.Cases {
		list = append(list, partiesOf(c)...)
	}
	slices.Sort(list)
	return slices.Compact(list)
}

func namedCurrencies(b impl.Book) []int {
	var list []int
	for _, c := range b.Cases {
		list = append(list, c.Cur)
	}
	slices.Sort(list)
	return slices.Compact(list)
}

// A tally adds up by account and currency, in big numbers.
type tally map[[2]int]*big.Int

func (x tally) add(acct, cur int, sum *big.Int) {
	key := [2]int{acct, cur}
	if x[key] == nil {
		x[key] = new(big.Int)
	}
	x[key].Add(x[key], sum)
}

func (x tally) of(acct, cur int) *big.Int {
	if sum := x[[2]int{acct, cur}]; sum != nil {
		return sum
	}
	return new(big.Int)
}

// wantTally is what is expected of every account: each case is booked on its sides.
func wantTally(b impl.Book) tally {
	sums := tally{}
	for _, c := range b.Cases {
		net := new(big.Int).Sub(big.NewInt(int64(c.Amount)), big.NewInt(int64(c.Back)))
		sums.add(c.Issuer, c.Cur, new(big.Int).Neg(net))
		sums.add(c.Acquirer, c.Cur, net)
		sums.add(theHouse, c.Cur, big.NewInt(int64(c.Fees)))
	}
	return sums
}

// wantSum adds up what is told of the cases in a currency.
func wantSum(b impl.Book, cur int, part func(impl.Case) int) *big.Int {
	sum := new(big.Int)
	for _, c := range b.Cases {
		if c.Cur == cur {
			sum.Add(sum, big.NewInt(int64(part(c))))
		}
	}
	return sum
}

func wantClaims(b impl.Book, cur int) *big.Int {
	return wantSum(b, cur, func(c impl.Case) int {
		if c.State == 7 {
			return 0
		}
		return c.Claim
	})
}

func wantBacks(b impl.Book, cur int) *big.Int {
	return wantSum(b, cur, func(c impl.Case) int { return c.Back })
}

func wantFees(b impl.Book, cur int) *big.Int {
	return wantSum(b, cur, func(c impl.Case) int { return c.Fees })
}

func wantCounts(b impl.Book) [8]int {
	var counts [8]int
	for state := range counts {
		for _, c := range b.Cases {
			if c.State == state {
				counts[state]++
			}
		}
	}
	return counts
}

func casesOf(b impl.Book, acct int) int {
	n := 0
	for _, c := range b.Cases {
		if slices.Contains(partiesOf(c), acct) {
			n++
		}
	}
	return n
}

func wantBusiest(b impl.Book) int {
	busiest := 0
	most := 0
	for _, acct := range namedAccounts(b) {
		if n := casesOf(b, acct); isAccount(acct) && n > most {
			busiest, most = acct, n
		}
	}
	return busiest
}

func wantDate(d int) string {
	if !isDay(d) {
		return ""
	}
	return calendarDay(d).Format("2006-01-02")
}

func wantCaseText(c impl.Case) string {
	if !wantCaseOk(c) {
		return ""
	}
	due := "-"
	if isDay(c.Due) {
		due = wantDate(c.Due)
	}
	return fmt.Sprintf("%s %d %d %d %s %s %s %s", stateWords[c.State], c.Issuer, c.Acquirer, c.Cur,
		wantMoney(c.Amount, c.Cur), wantMoney(c.Claim, c.Cur), wantMoney(c.Back, c.Cur), due)
}

func wantReport(b impl.Book) string {
	text := fmt.Sprintf("day %s\n", wantDate(b.Today))
	for n, c := range b.Cases {
		text += fmt.Sprintf("%d %s\n", n, wantCaseText(c))
	}
	return text + fmt.Sprintf("books %s\n", wantLedgerText(b.Ledger))
}

// wantInt holds a sum against one in big numbers; one that no int can be is said nothing of.
func wantInt(t *testing.T, b impl.Book, what string, got int, want *big.Int) {
	t.Helper()
	if want.IsInt64() && int(want.Int64()) != got {
		t.Errorf("of %s %s is %d, want %v", shortBook(b), what, got, want)
	}
}

// askSums holds what is expected, open and given against the second reckoning, in every currency that is named and in others.
func askSums(t *testing.T, b impl.Book) {
	t.Helper()
	sums := wantTally(b)
	accounts := append(namedAccounts(b), 0, 9998)
	for _, cur := range append(namedCurrencies(b), 0, 840, 36) {
		for _, acct := range accounts {
			wantInt(t, b, told("Expected", acct, cur), impl.Expected(b, acct, cur), sums.of(acct, cur))
		}
		wantInt(t, b, told("Open", cur), impl.Open(b, cur), wantClaims(b, cur))
		wantInt(t, b, told("Given", cur), impl.Given(b, cur), wantBacks(b, cur))
		askExpectedOfAll(t, b, cur)
	}
}

// askExpectedOfAll wants that what is expected of all accounts of a currency makes up the fees of its cases.
func askExpectedOfAll(t *testing.T, b impl.Book, cur int) {
	t.Helper()
	sum := 0
	for _, acct := range namedAccounts(b) {
		sum += impl.Expected(b, acct, cur)
	}
	wantInt(t, b, fmt.Sprintf("what is expected of all accounts in %d", cur), sum, wantFees(b, cur))
}

func askCounts(t *testing.T, b impl.Book) {
	t.Helper()
	got := impl.Counts(b)
	if want := wantCounts(b); got != want {
		t.Errorf("Counts of %s is %v, want %v", shortBook(b), got, want)
	}
	sum := 0
	for _, n := range got {
		sum += n
	}
	if stateless := slices.IndexFunc(b.Cases, func(c impl.Case) bool { return !within(c.State, 0, 7) }); stateless < 0 && sum != len(b.Cases) {
		t.Errorf("Counts of %d cases make up %d", len(b.Cases), sum)
	}
}

func askBusiest(t *testing.T, b impl.Book) int {
	t.Helper()
	got := impl.Busiest(b)
	if want := wantBusiest(b); got != want {
		t.Errorf("Busiest of %s is %d, want %d", shortBook(b), got, want)
	}
	return got
}

func askCaseText(t *testing.T, c impl.Case) string {
	t.Helper()
	got := impl.CaseText(c)
	if want := wantCaseText(c); got != want {
		t.Errorf("CaseText of %v is %q, want %q", c, got, want)
	}
	return got
}

func askReport(t *testing.T, b impl.Book) string {
	t.Helper()
	got := impl.Report(b)
	if want := wantReport(b); got != want {
		t.Errorf("Report of %s is\n%.400s, want\n%.400s", shortBook(b), got, want)
	}
	return got
}

// askReports asks all that the chapter tells of a book.
func askReports(t *testing.T, b impl.Book) {
	t.Helper()
	askSums(t, b)
	askCounts(t, b)
	askBusiest(t, b)
	for _, c := range b.Cases {
		askCaseText(t, c)
	}
	askReport(t, b)
}

// askExpected wants in the ledger what is expected of each account less the fees that it paid, and just the fees of the house.
func (j *journal) askExpected(t *testing.T) {
	t.Helper()
	b := j.book
	for _, cur := range append(namedCurrencies(b), 840, 978) {
		for _, acct := range append(namedAccounts(b), 9998) {
			got, want := impl.BalanceOf(b.Ledger, acct, cur), impl.Expected(b, acct, cur)-j.fees[[2]int{acct, cur}]
			if got != want {
				t.Errorf("account %d has %d in %d, want %d, as the cases of %s say", acct, got, cur, want, shortBook(b))
			}
		}
		wantInt(t, b, "what is expected of the house", impl.Expected(b, theHouse, cur), wantFees(b, cur))
		wantInt(t, b, "what the house has", impl.BalanceOf(b.Ledger, theHouse, cur), wantFees(b, cur))
	}
}

// reportLines is a book whose sums are counted by hand: what is expected of 1, 4 and the house in 840 and of 2 and 4 in 978, and what is open and given in both.
var reportLines = []struct {
	line     string
	counts   [8]int
	expected [5]int
	open     [2]int
	given    [2]int
	busiest  int
}{
	{"auth 000000000001 1 840 500", [8]int{}, [5]int{}, [2]int{}, [2]int{}, 0},
	{"auth 000000000002 2 978 900", [8]int{}, [5]int{}, [2]int{}, [2]int{}, 0},
	{"auth 000000000003 4 840 70000", [8]int{}, [5]int{}, [2]int{}, [2]int{}, 0},
	{"pay 1 4 840 500", [8]int{1}, [5]int{-500, 500}, [2]int{}, [2]int{}, 1},
	{"pay 2 4 978 900", [8]int{2}, [5]int{-500, 500, 0, -900, 900}, [2]int{}, [2]int{}, 4},
	{"pay 4 1 840 70000", [8]int{3}, [5]int{69500, -69500, 0, -900, 900}, [2]int{}, [2]int{}, 4},
	{"act 0 charge 300 4831", [8]int{2, 0, 0, 1}, [5]int{69800, -69800, 0, -900, 900}, [2]int{300}, [2]int{300}, 4},
	{"act 1 ask 0 0", [8]int{1, 1, 0, 1}, [5]int{69800, -69800, 0, -900, 900}, [2]int{300}, [2]int{300}, 4},
	{"act 2 charge 70000 4855", [8]int{0, 1, 0, 2}, [5]int{-200, 200, 0, -900, 900}, [2]int{70300}, [2]int{70300}, 4},
	{"act 2 answer 60000 0", [8]int{0, 1, 0, 1, 1}, [5]int{59800, -59800, 0, -900, 900}, [2]int{60300}, [2]int{10300}, 4},
	{"act 2 second 50000 0", [8]int{0, 1, 0, 1, 0, 1}, [5]int{59800, -59800, 0, -900, 900}, [2]int{50300}, [2]int{10300}, 4},
	{"act 2 refuse 0 0", [8]int{0, 1, 0, 1, 0, 0, 1}, [5]int{59800, -59800, 0, -900, 900}, [2]int{50300}, [2]int{10300}, 4},
	{"act 2 rule 20000 0", [8]int{0, 1, 0, 1, 0, 0, 0, 1}, [5]int{39800, -39800, 50000, -900, 900}, [2]int{300}, [2]int{30300}, 4},
	{"act 1 give 0 0", [8]int{0, 0, 1, 1, 0, 0, 0, 1}, [5]int{39800, -39800, 50000, -900, 900}, [2]int{300}, [2]int{30300}, 4},
	{"act 1 charge 900 4855", [8]int{0, 0, 0, 2, 0, 0, 0, 1}, [5]int{39800, -39800, 50000}, [2]int{300, 900}, [2]int{30300, 900}, 4},
	{"day 9043", [8]int{0, 0, 0, 2, 0, 0, 0, 1}, [5]int{39800, -39800, 50000}, [2]int{300, 900}, [2]int{30300, 900}, 4},
	{"act 1 expire 0 0", [8]int{0, 0, 0, 1, 0, 0, 0, 2}, [5]int{39800, -39800, 50000}, [2]int{300}, [2]int{30300, 900}, 4},
}

// reportTexts are the reports behind some of these lines. Day 9000 is 2024-08-22.
var reportTexts = map[string]string{
	"auth 000000000003 4 840 70000": "day 2024-08-22\nbooks -\n",
	"pay 1 4 840 500":               "day 2024-08-22\n0 open 1 4 840 5.00 0.00 0.00 -\nbooks 1 840 -5.00;4 840 5.00\n",
	"act 1 ask 0 0": "day 2024-08-22\n0 charged 1 4 840 5.00 3.00 3.00 2024-10-03\n1 asked 2 4 978 9.00 0.00 0.00 2024-09-19\n2 open 4 1 840 700.00 0.00 0.00 -\n" +
		"books 1 840 698.00;2 978 -9.00;4 840 -698.00;4 978 9.00\n",
	"act 2 second 50000 0": "day 2024-08-22\n0 charged 1 4 840 5.00 3.00 3.00 2024-10-03\n1 asked 2 4 978 9.00 0.00 0.00 2024-09-19\n2 second 4 1 840 700.00 500.00 100.00 2024-09-12\n" +
		"books 1 840 598.00;2 978 -9.00;4 840 -598.00;4 978 9.00\n",
	"act 2 refuse 0 0": "day 2024-08-22\n0 charged 1 4 840 5.00 3.00 3.00 2024-10-03\n1 asked 2 4 978 9.00 0.00 0.00 2024-09-19\n2 ruling 4 1 840 700.00 500.00 100.00 2024-11-14\n" +
		"books 1 840 598.00;2 978 -9.00;4 840 -598.00;4 978 9.00\n",
	"act 1 give 0 0": "day 2024-08-22\n0 charged 1 4 840 5.00 3.00 3.00 2024-10-03\n1 given 2 4 978 9.00 0.00 0.00 -\n2 closed 4 1 840 700.00 0.00 300.00 -\n" +
		"books 1 840 398.00;2 978 -9.00;4 840 -898.00;4 978 9.00;9999 840 500.00\n",
	"act 1 expire 0 0": "day 2024-10-04\n0 charged 1 4 840 5.00 3.00 3.00 2024-10-03\n1 closed 2 4 978 9.00 0.00 9.00 -\n2 closed 4 1 840 700.00 0.00 300.00 -\n" +
		"books 1 840 398.00;4 840 -898.00;9999 840 500.00\n",
}

// reportBook leads to the book that is counted by hand.
func reportBook(t *testing.T) *journal {
	t.Helper()
	j := newJournal(t, 9000, nil)
	for _, x := range reportLines {
		j.must(t, x.line)
	}
	return j
}

func TestReportsByHand(t *testing.T) {
	j := newJournal(t, 9000, nil)
	asked := 0
	for _, x := range reportLines {
		j.must(t, x.line)
		b := j.book
		expected := [5]int{impl.Expected(b, 1, 840), impl.Expected(b, 4, 840), impl.Expected(b, impl.House, 840), impl.Expected(b, 2, 978), impl.Expected(b, 4, 978)}
		open, given := [2]int{impl.Open(b, 840), impl.Open(b, 978)}, [2]int{impl.Given(b, 840), impl.Given(b, 978)}
		if expected != x.expected || open != x.open || given != x.given {
			t.Errorf("%q: expected %v, open %v, given %v; want %v", x.line, expected, open, given, x)
		}
		if counts, busiest := impl.Counts(b), impl.Busiest(b); counts != x.counts || busiest != x.busiest {
			t.Errorf("%q: counts %v, busiest %d; want %v", x.line, counts, busiest, x)
		}
		for _, other := range []int{impl.Expected(b, 2, 840), impl.Expected(b, 1, 978), impl.Expected(b, impl.House, 978), impl.Expected(b, 3, 840), impl.Expected(b, 4, 392), impl.Open(b, 392), impl.Given(b, 36)} {
			if other != 0 {
				t.Errorf("%q: of an account or a currency that has nothing %d is told", x.line, other)
			}
		}
		if want, named := reportTexts[x.line]; named {
			asked++
			if got := impl.Report(b); got != want {
				t.Errorf("%q: the report is\n%s, want\n%s", x.line, got, want)
			}
		}
		j.askExpected(t)
		askReports(t, b)
	}
	if asked != len(reportTexts) {
		t.Errorf("%d of %d reports were asked for", asked, len(reportTexts))
	}
}

func TestReportsOfNothing(t *testing.T) {
	start, _ := impl.BookStart(9000, []int{9001})
	days, n := impl.BookAll(9000, nil, []string{"day 9001", "day 9002"})
	if n != 2 {
		t.Fatal("lines", n)
	}
	for _, x := range []struct {
		what   string
		b      impl.Book
		report string
	}{
		{"the zero value", impl.Book{}, "day 2000-01-01\nbooks -\n"},
		{"a start", start, "day 2024-08-22\nbooks -\n"},
		{"days", days, "day 2024-08-24\nbooks -\n"},
		{"empty lists", impl.Book{Today: 60, Cases: []impl.Case{}, Ledger: ledger(), Log: []string{}}, "day 2000-03-01\nbooks -\n"},
		{"accounts without cases", impl.Book{Ledger: ledger(line(1, 840, 500), line(2, 840, -500))}, "day 2000-01-01\nbooks 1 840 5.00;2 840 -5.00\n"},
	} {
		for _, acct := range []int{0, 1, 2, 4, impl.House} {
			if got := impl.Expected(x.b, acct, 840); got != 0 {
				t.Errorf("%s: %d is expected of %d", x.what, got, acct)
			}
		}
		if open, given := impl.Open(x.b, 840), impl.Given(x.b, 840); open != 0 || given != 0 {
			t.Errorf("%s: %d is open and %d given", x.what, open, given)
		}
		if counts, busiest := impl.Counts(x.b), impl.Busiest(x.b); counts != [8]int{} || busiest != 0 {
			t.Errorf("%s: %v, busiest %d", x.what, counts, busiest)
		}
		if got := impl.Report(x.b); got != x.report {
			t.Errorf("%s: the report is %q, want %q", x.what, got, x.report)
		}
	}
}

// between is a case of 10000 with 3000 back between two accounts.
func between(issuer, acquirer, cur int) impl.Case {
	c := anyCase(3, 4000, 3000, 30)
	c.Issuer, c.Acquirer, c.Cur = issuer, acquirer, cur
	return c
}

func bookOf(cases ...impl.Case) impl.Book { return impl.Book{Today: 9000, Cases: cases} }

func TestExpectedNamed(t *testing.T) {
	house := impl.House
	for _, x := range []struct {
		what      string
		b         impl.Book
		acct, cur int
		want      int
	}{
		{"the issuer", bookOf(between(1, 4, 840)), 1, 840, -7000},
		{"the acquirer", bookOf(between(1, 4, 840)), 4, 840, 7000},
		{"neither", bookOf(between(1, 4, 840)), 2, 840, 0},
		{"in another currency", bookOf(between(1, 4, 840)), 1, 978, 0},
		{"in no currency", bookOf(between(1, 4, 840)), 1, 0, 0},
		{"two currencies", bookOf(between(1, 4, 840), between(1, 4, 978), between(1, 4, 978)), 1, 978, -14000},
		{"issuer of two", bookOf(between(1, 4, 840), between(1, 5, 840)), 1, 840, -14000},
		{"acquirer of two", bookOf(between(1, 4, 840), between(2, 4, 840)), 4, 840, 14000},
		{"issuer in one and acquirer in another", bookOf(between(1, 4, 840), between(4, 2, 840), between(4, 3, 840)), 4, 840, -7000},
		{"both in one", bookOf(between(4, 4, 840)), 4, 840, 0},
		{"both in one, and in others", bookOf(between(4, 4, 840), between(1, 4, 840), between(4, 4, 840)), 4, 840, 7000},
		{"nothing is back", bookOf(anyCase(0, 0, 0, -1)), 1, 840, -10000},
		{"all is back", bookOf(anyCase(3, 10000, 10000, 30)), 1, 840, 0},
		{"it is closed", bookOf(anyCase(7, 0, 2500, -1)), 4, 840, 7500},
		{"the claim does not count", bookOf(anyCase(5, 9000, 0, 30)), 4, 840, 10000},
		{"the house without fees", bookOf(between(1, 4, 840)), house, 840, 0},
		{"the house", bookOf(withFees(between(1, 4, 840), 50000)), house, 840, 50000},
		{"the house of two", bookOf(withFees(between(1, 4, 840), 50000), withFees(between(2, 5, 840), 100000)), house, 840, 150000},
		{"the house in another currency", bookOf(withFees(between(1, 4, 840), 50000)), house, 978, 0},
		{"fees are not told of the issuer", bookOf(withFees(between(1, 4, 840), 50000)), 1, 840, -7000},
		{"fees are not told of the acquirer", bookOf(withFees(between(1, 4, 840), 50000)), 4, 840, 7000},
		{"the house of a closed one", bookOf(withFees(anyCase(7, 0, 0, -1), 50000)), house, 840, 50000},
		{"the house as issuer", bookOf(withFees(between(house, 4, 840), 50000)), house, 840, 43000},
		{"the house as acquirer", bookOf(withFees(between(1, house, 840), 50000)), house, 840, 57000},
		{"the house as both", bookOf(withFees(between(house, house, 840), 50000)), house, 840, 50000},
		{"beside the house", bookOf(between(house, 9998, 840)), 9998, 840, 7000},
		{"no account", bookOf(between(0, 10000, 840)), 0, 840, -7000},
		{"behind the last account", bookOf(between(0, 10000, 840)), 10000, 840, 7000},
		{"no currency", bookOf(between(1, 4, 841)), 4, 841, 7000},
		{"the least int", bookOf(between(leastOfInt, 4, greatestInt)), leastOfInt, greatestInt, -7000},
		{"the zero value of a case", bookOf(impl.Case{}, impl.Case{}), 0, 0, 0},
		{"more back than was paid", bookOf(anyCase(7, 0, 10001, -1)), 1, 840, 1},
		{"no state", bookOf(anyCase(8, 0, 0, -1), anyCase(-1, 0, 0, -1)), 1, 840, -20000},
		{"fees below 0", bookOf(withFees(between(1, 4, 840), -7)), house, 840, -7},
	} {
		if got := impl.Expected(x.b, x.acct, x.cur); got != x.want {
			t.Errorf("%s: %s is %d, want %d", x.what, told("Expected", x.acct, x.cur), got, x.want)
		}
		askReports(t, x.b)
	}
}

func TestCountsNamed(t *testing.T) {
	// Each case counts in its own state alone.
	for state := range 8 {
		want := [8]int{}
		for n := range 5 {
			cases := closedCases(0)
			for range n {
				cases = append(cases, anyCase(state, 4000, 3000, 30))
			}
			want[state] = n
			if got := impl.Counts(bookOf(cases...)); got != want {
				t.Errorf("Counts of %d that are %s is %v", n, stateWords[state], got)
			}
		}
	}
	var cases []impl.Case
	for state := range 8 {
		for range state + 1 {
			cases = append(cases, anyCase(state, 4000, 3000, 30))
		}
	}
	if got := impl.Counts(bookOf(cases...)); got != [8]int{1, 2, 3, 4, 5, 6, 7, 8} {
		t.Error("Counts is", got)
	}
	slices.Reverse(cases)
	if got := impl.Counts(bookOf(cases...)); got != [8]int{1, 2, 3, 4, 5, 6, 7, 8} {
		t.Error("Counts of the cases from behind is", got)
	}
	// What is in no state counts in none.
	for _, state := range slices.Concat(edgeInts, edgeDays, daysFrom(-20, 1, 50), []int{1<<32 + 3, 256, 65536, -1 << 32}) {
		want := [8]int{0, 0, 0, 1}
		if within(state, 0, 7) {
			want[state]++
		}
		if got := impl.Counts(bookOf(anyCase(state, 0, 0, -1), anyCase(3, 0, 0, -1))); got != want {
			t.Errorf("Counts with state %d is %v, want %v", state, got, want)
		}
	}
	// What is no case for another reason is in its state still, in whatever currency.
	bad := badCases()
	got, want := impl.Counts(bookOf(bad...)), wantCounts(bookOf(bad...))
	if got != want || slices.Contains(got[:], 0) {
		t.Errorf("Counts of what is no case is %v, want %v", got, want)
	}
	if got := impl.Counts(bookOf(impl.Case{}, between(1, 4, 978), between(1, 4, 840), between(1, 4, 7))); got != [8]int{1, 0, 0, 3} {
		t.Error("Counts in some currencies is", got)
	}
}

func TestOpenAndGivenNamed(t *testing.T) {
	closed := anyCase(7, 4000, 3000, -1)
	for _, x := range []struct {
		what  string
		b     impl.Book
		cur   int
		open  int
		given int
	}{
		{"one", bookOf(between(1, 4, 840)), 840, 4000, 3000},
		{"another currency", bookOf(between(1, 4, 840)), 978, 0, 0},
		{"no currency", bookOf(between(1, 4, 840)), 0, 0, 0},
		{"two", bookOf(between(1, 4, 840), between(2, 5, 840)), 840, 8000, 6000},
		{"two currencies", bookOf(between(1, 4, 840), between(2, 5, 978), between(2, 5, 978)), 978, 8000, 6000},
		{"closed", bookOf(closed), 840, 0, 3000},
		{"closed and not", bookOf(closed, between(1, 4, 840), closed), 840, 4000, 9000},
		{"closed in another currency", bookOf(closed, between(1, 4, 978)), 978, 4000, 3000},
		{"open", bookOf(anyCase(0, 1, 2, -1)), 840, 1, 2},
		{"asked", bookOf(anyCase(1, 1, 2, -1)), 840, 1, 2},
		{"given", bookOf(anyCase(2, 1, 2, -1)), 840, 1, 2},
		{"charged", bookOf(anyCase(3, 1, 2, -1)), 840, 1, 2},
		{"answered", bookOf(anyCase(4, 1, 2, -1)), 840, 1, 2},
		{"second", bookOf(anyCase(5, 1, 2, -1)), 840, 1, 2},
		{"ruling", bookOf(anyCase(6, 1, 2, -1)), 840, 1, 2},
		{"a state behind the last", bookOf(anyCase(8, 1, 2, -1)), 840, 1, 2},
		{"a state below 0", bookOf(anyCase(-1, 1, 2, -1)), 840, 1, 2},
		{"a state at the end of int", bookOf(anyCase(leastOfInt, 1, 2, -1), anyCase(greatestInt, 1, 2, -1)), 840, 2, 4},
		{"nothing claimed and nothing back", bookOf(anyCase(0, 0, 0, -1)), 840, 0, 0},
		{"below 0", bookOf(anyCase(3, -5, -6, -1), anyCase(3, 1, 1, -1)), 840, -4, -5},
		{"more than was paid", bookOf(anyCase(3, 10001, 10002, -1)), 840, 10001, 10002},
		{"no accounts", bookOf(between(0, 0, 840)), 840, 4000, 3000},
		{"a currency that is none", bookOf(between(1, 4, 841), closed), 841, 4000, 3000},
		{"the currency 0", bookOf(between(1, 4, 0), impl.Case{}), 0, 4000, 3000},
		{"the ends of int", bookOf(anyCase(3, greatestInt, leastOfInt, -1), anyCase(3, leastOfInt, greatestInt, -1)), 840, -1, -1},
		{"over the end and back", bookOf(anyCase(3, greatestInt, greatestInt, -1), anyCase(3, 1, 1, -1), anyCase(3, -2, -2, -1)), 840, greatestInt - 1, greatestInt - 1},
	} {
		if open, given := impl.Open(x.b, x.cur), impl.Given(x.b, x.cur); open != x.open || given != x.given {
			t.Errorf("%s: %d is open and %d given, want %d and %d", x.what, open, given, x.open, x.given)
		}
		askReports(t, x.b)
	}
}

func TestBusiestNamed(t *testing.T) {
	for _, x := range []struct {
		what string
		b    impl.Book
		want int
	}{
		{"no case", bookOf(), 0},
		{"one case", bookOf(between(7, 4, 840)), 4},
		{"one case, the issuer the less", bookOf(between(4, 7, 840)), 4},
		{"the issuer of two", bookOf(between(7, 4, 840), between(7, 3, 840)), 7},
		{"the acquirer of two", bookOf(between(4, 7, 840), between(3, 7, 840)), 7},
		{"issuer in one and acquirer in another", bookOf(between(8, 4, 840), between(3, 8, 840)), 8},
		{"of several the least", bookOf(between(8, 5, 840), between(5, 8, 840), between(4, 9, 840), between(9, 4, 840), between(3, 2, 840)), 4},
		{"the least stands last", bookOf(between(9, 8, 840), between(9, 8, 840), between(7, 6, 840), between(7, 6, 840)), 6},
		{"the least of one case does not count", bookOf(between(1, 2, 840), between(9, 8, 840), between(9, 7, 840)), 9},
		{"in all currencies", bookOf(between(1, 2, 840), between(9, 8, 840), between(9, 7, 392)), 9},
		{"closed ones too", bookOf(between(3, 2, 840), between(3, 4, 840), anyCase(7, 0, 0, -1), anyCase(7, 0, 0, -1)), 4},
		{"both in one is one case", bookOf(between(9, 9, 840), between(5, 6, 840), between(5, 7, 840)), 5},
		{"both in one is one case, of several the least", bookOf(between(9, 9, 840), between(8, 7, 840)), 7},
		{"both in one alone", bookOf(between(9, 9, 840)), 9},
		{"the first account", bookOf(between(1, 2, 840)), 1},
		{"the last accounts", bookOf(between(9998, impl.House, 840), between(impl.House, 9997, 840)), impl.House},
		{"the house is an account", bookOf(between(impl.House, impl.House, 840)), impl.House},
		{"its fees make the house no side", bookOf(withFees(between(1, 2, 840), 50000), withFees(between(3, 4, 840), 50000)), 1},
		{"a zero value", bookOf(impl.Case{}), 0},
		{"zero values and an account", bookOf(impl.Case{}, impl.Case{}, impl.Case{}, between(5, 0, 840)), 5},
		{"numbers that are no accounts", bookOf(between(0, -1, 840), between(10000, leastOfInt, 840), between(greatestInt, 0, 840)), 0},
		{"no account has the most", bookOf(between(-1, 7, 840), between(-1, 6, 840), between(10000, 6, 840), between(10000, 6, 840), between(10000, 5, 840), between(10000, 5, 840)), 6},
		{"cases in no state", bookOf(anyCase(8, 0, 0, -1), anyCase(-1, 0, 0, -1), between(3, 2, 840)), 1},
		{"not by how much was paid", bookOf(impl.Case{Issuer: 3, Acquirer: 2, Amount: mostPaid}, impl.Case{Issuer: 5, Acquirer: 4, Amount: 1}, impl.Case{Issuer: 5, Acquirer: 6, Amount: 1}), 5},
	} {
		if got := askBusiest(t, x.b); got != x.want {
			t.Errorf("%s: %d, want %d", x.what, got, x.want)
		}
		askReports(t, x.b)
	}
	for _, acct := range slices.Concat(accountInts, edgeInts, daysFrom(-3, 1, 10), daysFrom(9990, 1, 20)) {
		want := 0
		if isAccount(acct) {
			want = acct
		}
		if got := impl.Busiest(bookOf(between(acct, 0, 840))); got != want {
			t.Errorf("Busiest of issuer %d is %d, want %d", acct, got, want)
		}
		if got := impl.Busiest(bookOf(between(0, acct, 840))); got != want {
			t.Errorf("Busiest of acquirer %d is %d, want %d", acct, got, want)
		}
	}
}

func TestCaseTextNamed(t *testing.T) {
	in := func(c impl.Case, cur int) impl.Case { c.Cur = cur; return c }
	for _, x := range []struct {
		c    impl.Case
		want string
	}{
		{anyCase(0, 0, 0, -1), "open 1 4 840 100.00 0.00 0.00 -"},
		{anyCase(1, 0, 0, 30), "asked 1 4 840 100.00 0.00 0.00 2000-01-31"},
		{anyCase(2, 0, 0, -1), "given 1 4 840 100.00 0.00 0.00 -"},
		{anyCase(3, 4000, 3000, 30), "charged 1 4 840 100.00 40.00 30.00 2000-01-31"},
		{anyCase(4, 1, 9999, 0), "answered 1 4 840 100.00 0.01 99.99 2000-01-01"},
		{anyCase(5, 10000, 0, 59), "second 1 4 840 100.00 100.00 0.00 2000-02-29"},
		{anyCase(6, 0, 10000, lastDay), "ruling 1 4 840 100.00 0.00 100.00 " + wantDate(lastDay)},
		{anyCase(7, 0, 2500, -1), "closed 1 4 840 100.00 0.00 25.00 -"},
		{anyCase(7, 1, 2, 30), "closed 1 4 840 100.00 0.01 0.02 2000-01-31"},
		{anyCase(0, 1, 2, 30), "open 1 4 840 100.00 0.01 0.02 2000-01-31"},
		{anyCase(3, 4000, 3000, -1), "charged 1 4 840 100.00 40.00 30.00 -"},
		{in(anyCase(3, 4000, 3000, -1), 392), "charged 1 4 392 10000 4000 3000 -"},
		{in(anyCase(3, 4000, 3, -1), 48), "charged 1 4 48 10.000 4.000 0.003 -"},
		{in(anyCase(3, 4000, 30, -1), 36), "charged 1 4 36 100.00 40.00 0.30 -"},
		{withFees(copied(anyCase(7, 0, 0, -1)), 50000), "closed 1 4 840 100.00 0.00 0.00 -"},
		{between(9998, 1, 414), "charged 9998 1 414 10.000 4.000 3.000 2000-01-31"},
		{impl.Case{Issuer: 5, Acquirer: 6, Cur: 978, Amount: mostPaid, State: 3, Reason: 4837, Claim: mostPaid, Back: mostPaid, Start: 9, Due: 3}, "charged 5 6 978 1000000000.00 1000000000.00 1000000000.00 2000-01-04"},
		{impl.Case{}, ""},
		{between(4, 4, 840), ""},
		{between(impl.House, 4, 840), ""},
		{between(0, 4, 840), ""},
		{between(1, 4, 841), ""},
		{anyCase(8, 0, 0, -1), ""},
		{anyCase(-1, 0, 0, -1), ""},
		{anyCase(0, 0, 0, -2), ""},
		{anyCase(0, 0, 0, lastDay+1), ""},
		{anyCase(0, 10001, 0, -1), ""},
		{anyCase(0, 0, -1, -1), ""},
	} {
		if got := askCaseText(t, x.c); got != x.want {
			t.Errorf("CaseText of %v is %q, want %q", x.c, got, x.want)
		}
	}
}

func TestCaseTextOfAll(t *testing.T) {
	for _, c := range slices.Concat(allCases(), badCases()) {
		askCaseText(t, c)
	}
	for _, cur := range slices.Concat(ledgerCurrencies, currencyInts) {
		for _, amount := range []int{1, 9, 10, 99, 100, 101, 999, 1000, 1001, 123456789, mostPaid - 1, mostPaid} {
			c := between(5, 6, cur)
			c.Amount, c.Claim, c.Back = amount, amount/3, amount-amount/7
			askCaseText(t, c)
		}
	}
	for _, due := range slices.Concat(edgeDays, edgeInts, daysFrom(0, 365, 220)) {
		for state := range 8 {
			askCaseText(t, anyCase(state, 5, 6, due))
		}
	}
	for _, issuer := range accountInts {
		for _, acquirer := range accountInts {
			askCaseText(t, between(issuer, acquirer, 756))
		}
	}
	for i := range 11 {
		for _, x := range caseInts {
			c := anyCase(i%8, 5, 6, 30)
			*caseFields(&c)[i] = x
			askCaseText(t, c)
		}
	}
}

// A case's text is its state first, and each part stands in its place.
func TestPartsOfACaseText(t *testing.T) {
	for _, c := range allCases() {
		words := strings.Split(impl.CaseText(c), " ")
		if len(words) != 8 || words[0] != impl.StateText(c.State) || words[1] != "7" || words[2] != "3" || words[3] != "392" {
			t.Fatalf("CaseText of %v is %q", c, words)
		}
		for i, want := range []int{c.Amount, c.Claim, c.Back} {
			if got, ok := impl.ReadMoney(words[4+i], c.Cur); !ok || got != want {
				t.Errorf("part %d of CaseText of %v is %q", 4+i, c, words[4+i])
			}
		}
		if due, ok := impl.ReadDate(words[7]); ok != (c.Due >= 0) || ok && due != c.Due || !ok && words[7] != "-" {
			t.Errorf("the last part of CaseText of %v is %q", c, words[7])
		}
	}
}

func TestReportNamed(t *testing.T) {
	uneven := ledger(line(1, 840, 5))
	for _, x := range []struct {
		what string
		b    impl.Book
		want string
	}{
		{"cases without accounts", bookOf(anyCase(0, 0, 0, -1), anyCase(1, 0, 0, 30)), "day 2024-08-22\n0 open 1 4 840 100.00 0.00 0.00 -\n1 asked 1 4 840 100.00 0.00 0.00 2000-01-31\nbooks -\n"},
		{"what is no case", bookOf(impl.Case{}, anyCase(0, 0, 0, -1), impl.Case{}), "day 2024-08-22\n0 \n1 open 1 4 840 100.00 0.00 0.00 -\n2 \nbooks -\n"},
		{"accounts that are not even", impl.Book{Ledger: uneven}, "day 2000-01-01\nbooks \n"},
		{"no day", impl.Book{Today: -1}, "day \nbooks -\n"},
		{"behind the last day", impl.Book{Today: lastDay + 1, Ledger: ledger(line(1, 392, -7), line(2, 392, 7))}, "day \nbooks 1 392 -7;2 392 7\n"},
		{"nothing is so", impl.Book{Today: leastOfInt, Off: []int{5, 5}, Auths: []impl.Auth{{}}, Cases: []impl.Case{{}}, Ledger: uneven, Log: []string{"x"}}, "day \n0 \nbooks \n"},
		{"the last day", impl.Book{Today: lastDay}, "day " + wantDate(lastDay) + "\nbooks -\n"},
	} {
		if got := askReport(t, x.b); got != x.want {
			t.Errorf("%s: the report is %q, want %q", x.what, got, x.want)
		}
		askReports(t, x.b)
	}
}

// The lines stand by the numbers of the cases, however many there are: 10 behind 9 and not behind 1.
func TestReportsOfManyCases(t *testing.T) {
	for _, n := range []int{1, 2, 3, 9, 10, 11, 12, 99, 100, 101, 149, mostCases, mostCases + 1, 1000, 5000} {
		b := bookOf()
		for i := range n {
			c := between(1+i%9000, 9001+i%900, ledgerCurrencies[i%8])
			c.Amount, c.State = 10000+i, i%8
			b.Cases = append(b.Cases, c)
		}
		b.Ledger = goodLedgers()[n%18]
		for range 3 {
			lines := wholeLines(askReport(t, b))
			if len(lines) != n+2 {
				t.Fatalf("of %d cases %d lines are told", n, len(lines))
			}
			for i, line := range lines[1 : n+1] {
				if line != fmt.Sprintf("%d %s", i, impl.CaseText(b.Cases[i])) {
					t.Fatalf("line %d of %d cases is %q", i+1, n, line)
				}
			}
			if lines[0] != "day 2024-08-22" || lines[n+1] != "books "+impl.LedgerText(b.Ledger) {
				t.Errorf("of %d cases the first line is %q and the last %q", n, lines[0], lines[n+1])
			}
		}
		askCounts(t, b)
		if n <= 200 {
			askSums(t, b)
			askBusiest(t, b)
		}
	}
}

// Books that chance leads to, asked behind every line.
func TestManyReports(t *testing.T) {
	thrown := chance(13)
	offs := someOffLists()
	fees, closed, both := 0, 0, 0
	states := [8]int{}
	for n := range 60 {
		j := newJournal(t, thrown.of([]int{0, 2, 9000, 9000, lastDay - 300}), offs[n%len(offs)])
		for range 80 + 300*(n%10/9) {
			if j.do(t, j.someLine(&thrown)) != 0 {
				continue
			}
			if thrown.below(20) == 0 {
				j.expire(t)
			}
			j.askExpected(t)
			askReports(t, j.book)
			if t.Failed() {
				t.Fatal("book", n, "with", j.book.Log)
			}
			for state, count := range impl.Counts(j.book) {
				states[state] += count
			}
		}
		for _, cur := range namedCurrencies(j.book) {
			fees += impl.Expected(j.book, theHouse, cur)
		}
		closed += impl.Counts(j.book)[7]
		// Account 1 pays and is paid.
		if slices.ContainsFunc(j.book.Cases, func(c impl.Case) bool { return c.Issuer == 1 }) && slices.ContainsFunc(j.book.Cases, func(c impl.Case) bool { return c.Acquirer == 1 }) {
			both++
		}
		again, done := impl.BookRead(j.start, j.off, impl.BookText(j.book))
		if done != len(j.book.Log) || impl.Report(again) != impl.Report(j.book) {
			t.Errorf("read again the report is\n%s, want\n%s", impl.Report(again), impl.Report(j.book))
		}
	}
	if fees < 10*theFee || closed < 50 || both < 5 || slices.Contains(states[:], 0) {
		t.Errorf("too little happened: fees %d, %d closed, %d books in which 1 is both, states %v", fees, closed, both, states)
	}
}

// The sums hang on the cases alone, and not on their order.
func TestReportsFromCasesAlone(t *testing.T) {
	thrown := chance(31)
	for _, b := range append(someBooks(t), reportBook(t).book) {
		alone := impl.Book{Cases: slices.Clone(b.Cases)}
		for i := range alone.Cases {
			k := thrown.below(i + 1)
			alone.Cases[i], alone.Cases[k] = alone.Cases[k], alone.Cases[i]
		}
		if impl.Counts(b) != impl.Counts(alone) || impl.Busiest(b) != impl.Busiest(alone) {
			t.Errorf("counts %v and %v, busiest %d and %d", impl.Counts(b), impl.Counts(alone), impl.Busiest(b), impl.Busiest(alone))
		}
		for _, cur := range append(namedCurrencies(b), 840, 0) {
			for _, acct := range append(namedAccounts(b), 1, 4, 0) {
				if impl.Expected(b, acct, cur) != impl.Expected(alone, acct, cur) {
					t.Errorf("of %d in %d is expected %d and %d", acct, cur, impl.Expected(b, acct, cur), impl.Expected(alone, acct, cur))
				}
			}
			if impl.Open(b, cur) != impl.Open(alone, cur) || impl.Given(b, cur) != impl.Given(alone, cur) {
				t.Errorf("open %d and %d, given %d and %d in %d", impl.Open(b, cur), impl.Open(alone, cur), impl.Given(b, cur), impl.Given(alone, cur), cur)
			}
		}
	}
}

// Of two lists of cases one behind the other is told what is told of both together.
func TestReportsOfTwoLists(t *testing.T) {
	thrown := chance(17)
	some := slices.Concat(allCases(), badCases())
	for range 300 {
		var one, two []impl.Case
		for range thrown.below(6) {
			one = append(one, some[thrown.below(len(some))])
		}
		for range thrown.below(6) {
			two = append(two, some[thrown.below(len(some))])
		}
		a, b, both := bookOf(one...), bookOf(two...), bookOf(slices.Concat(one, two)...)
		for state, count := range impl.Counts(both) {
			if count != impl.Counts(a)[state]+impl.Counts(b)[state] {
				t.Errorf("Counts of %v is %v", both.Cases, impl.Counts(both))
			}
		}
		for _, cur := range namedCurrencies(both) {
			if impl.Open(both, cur) != impl.Open(a, cur)+impl.Open(b, cur) || impl.Given(both, cur) != impl.Given(a, cur)+impl.Given(b, cur) {
				t.Errorf("of %v is open %d and given %d", both.Cases, impl.Open(both, cur), impl.Given(both, cur))
			}
			for _, acct := range namedAccounts(both) {
				if impl.Expected(both, acct, cur) != impl.Expected(a, acct, cur)+impl.Expected(b, acct, cur) {
					t.Errorf("of %v is expected %d of %d", both.Cases, impl.Expected(both, acct, cur), acct)
				}
			}
		}
	}
}

func TestReportsOfOddBooks(t *testing.T) {
	for i, b := range append(oddBooks(), bookOf(badCases()...), bookOf(allCases()...)) {
		askReports(t, b)
		if t.Failed() {
			t.Fatal("book", i)
		}
	}
	for _, l := range allLedgers() {
		askReport(t, impl.Book{Today: 5, Ledger: l})
	}
	for _, today := range slices.Concat(edgeDays, edgeInts) {
		askReport(t, impl.Book{Today: today})
	}
}

// Every number that may be asked for is answered, whatever the cases are.
func TestReportsOfAnyNumbers(t *testing.T) {
	for i := range 11 {
		for _, x := range caseInts {
			c := anyCase(3, 4000, 3000, 30)
			*caseFields(&c)[i] = x
			b := bookOf(c, between(4, 2, 840), c)
			sums := wantTally(b)
			for _, cur := range currencyInts {
				for _, acct := range accountInts {
					wantInt(t, b, told("Expected", acct, cur), impl.Expected(b, acct, cur), sums.of(acct, cur))
				}
				wantInt(t, b, told("Open", cur), impl.Open(b, cur), wantClaims(b, cur))
				wantInt(t, b, told("Given", cur), impl.Given(b, cur), wantBacks(b, cur))
			}
			askReports(t, b)
			if t.Failed() {
				t.Fatal("of", b.Cases)
			}
		}
	}
}

func TestAnyReportIsAnswered(t *testing.T) {
	thrown := chance(131)
	ledgers := slices.DeleteFunc(allLedgers(), func(l impl.Ledger) bool { return len(l.Lines) > 20 })
	for range 6000 {
		b := anythingAsBook(&thrown, ledgers)
		for range thrown.below(4) {
			c := impl.Case{Copied: thrown.below(2) == 0}
			for _, field := range caseFields(&c) {
				*field = thrown.of(caseInts)
			}
			b.Cases = append(b.Cases, c)
		}
		askReports(t, b)
		if t.Failed() {
			t.Fatal("of", b)
		}
	}
}

// reportAnswers are the answers of every function to a book, in one order.
func reportAnswers(b impl.Book) []string {
	list := []string{fmt.Sprint(impl.Counts(b)), strconv.Itoa(impl.Busiest(b)), impl.Report(b)}
	for _, cur := range append(namedCurrencies(b), 840, 978, 0) {
		list = append(list, strconv.Itoa(impl.Open(b, cur)), strconv.Itoa(impl.Given(b, cur)))
		for _, acct := range append(namedAccounts(b), 0, 1, 4) {
			list = append(list, strconv.Itoa(impl.Expected(b, acct, cur)))
		}
	}
	for _, c := range b.Cases {
		list = append(list, impl.CaseText(c))
	}
	return list
}

func TestReportsDoNotWriteIntoBooks(t *testing.T) {
	for i, b := range append(someBooks(t), reportBook(t).book) {
		room := withRoom(b)
		kept := cloneBook(allRoom(room))
		for range 2 {
			reportAnswers(room)
		}
		if !sameBook(allRoom(room), kept) {
			t.Errorf("book %d, or the room behind its lists, was written into", i)
		}
		if !slices.Equal(reportAnswers(room), reportAnswers(cloneBook(b))) {
			t.Errorf("of book %d what stands behind its lists is told", i)
		}
	}
}

func TestReportsAnswerTheSameAgain(t *testing.T) {
	books := append(someBooks(t), reportBook(t).book, bookOf(allCases()[:mostCases]...))
	var first [][]string
	for _, b := range books {
		first = append(first, reportAnswers(b))
	}
	ask := func() bool {
		for i, b := range books {
			if !slices.Equal(reportAnswers(b), first[i]) {
				return false
			}
		}
		return true
	}
	for range 3 {
		if !ask() {
			t.Fatal("asked again, another answer is given")
		}
	}
	same := make([]bool, 8)
	var all sync.WaitGroup
	for i := range same {
		all.Go(func() { same[i] = ask() })
	}
	all.Wait()
	if slices.Contains(same, false) {
		t.Error("asked side by side, another answer is given")
	}
}

// A report is told to its end when it is answered: what becomes of the book behind that is not in it.
func TestReportsAreNotKept(t *testing.T) {
	for range 200 {
		mine := cloneBook(bookOf(allCases()[:20]...))
		mine.Ledger = ledger(line(1, 840, 500), line(2, 840, -500))
		want := wantReport(mine)
		got := impl.Report(mine)
		overwriteBook(mine)
		if got != want {
			t.Fatalf("the report is %q, want %q", got, want)
		}
	}
}

func TestTextsOfReportsAreNewMemory(t *testing.T) {
	b := reportBook(t).book
	for _, tell := range []func() string{
		func() string { return impl.Report(b) },
		func() string { return impl.Report(impl.Book{}) },
		func() string { return impl.CaseText(b.Cases[0]) },
		func() string { return impl.CaseText(b.Cases[2]) },
	} {
		one, two := tell(), tell()
		askTextsApart(t, "a report", []string{one, two}, bookTexts(b))
		askTextsApart(t, "a report", []string{one}, []string{two})
	}
}

// An answer of counts is a value of its own.
func TestCountsAreNewMemory(t *testing.T) {
	b := reportBook(t).book
	one := impl.Counts(b)
	two := one
	for i := range one {
		one[i] = -1
	}
	if impl.Counts(b) != two || two != [8]int{0, 0, 0, 1, 0, 0, 0, 2} {
		t.Error("Counts is", impl.Counts(b), two)
	}
}

// By the accounts that the fees came from, the house is the only one that stands above what its sides expect.
func TestFeesOfBothSides(t *testing.T) {
	for _, x := range []struct {
		ruled int
		want  map[int]int
	}{
		{50, map[int]int{1: -100 + 50, 4: 100 - 50 - theFee, theHouse: theFee}},
		{49, map[int]int{1: -100 + 49 - theFee, 4: 100 - 49, theHouse: theFee}},
		{0, map[int]int{1: -100 - theFee, 4: 100, theHouse: theFee}},
	} {
		j := newJournal(t, 9000, nil)
		j.must(t, authLine(1, 1, 840, 100), payLine(1, 4, 840, 100), "act 0 charge 100 4855", "act 0 answer 100 0", "act 0 second 100 0", "act 0 refuse 0 0", actLine(0, "rule", x.ruled, 0))
		got := map[int]int{}
		for _, acct := range namedAccounts(j.book) {
			got[acct] = impl.BalanceOf(j.book.Ledger, acct, 840)
		}
		if !maps.Equal(got, x.want) {
			t.Errorf("ruled for %d the accounts are %v, want %v", x.ruled, got, x.want)
		}
		for _, acct := range []int{1, 4} {
			paid := impl.Expected(j.book, acct, 840) - got[acct]
			if paid != j.fees[[2]int{acct, 840}] || paid != 0 && paid != theFee {
				t.Errorf("ruled for %d account %d stands %d below what is expected", x.ruled, acct, paid)
			}
		}
		j.askExpected(t)
	}
}
