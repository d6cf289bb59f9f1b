package tests

import (
	"fmt"
	"slices"
	"strconv"
	"strings"
	"sync"
	"testing"

	"loop.example/g00126/impl"
)

const (
	mostAuths = 100
	mostWait  = 7
)

// A payment is what an authorization is looked for.
type payment struct{ issuer, cur, amount, day int }

func refOf(n int) string { return fmt.Sprintf("REF%09d", n) }

// anyAuth is one of issuer 1 in dollars.
func anyAuth(n, amount, day int) impl.Auth {
	return impl.Auth{Ref: refOf(n), Issuer: 1, Cur: 840, Amount: amount, Day: day}
}

func used(a impl.Auth) impl.Auth {
	a.Used = true
	return a
}

func withRef(a impl.Auth, ref string) impl.Auth {
	a.Ref = ref
	return a
}

// authsOf are authorizations of these amounts on day 9000.
func authsOf(amounts ...int) []impl.Auth {
	var list []impl.Auth
	for i, amount := range amounts {
		list = append(list, anyAuth(i, amount, 9000))
	}
	return list
}

func manyAuths(n int) []impl.Auth {
	var list []impl.Auth
	for i := range n {
		list = append(list, anyAuth(i, 1000+i*37%50, 9000+i%5))
	}
	return list
}

// cloneAuths copies the texts too, so that what is written over in one list is not seen in the other.
func cloneAuths(list []impl.Auth) []impl.Auth {
	clone := slices.Clone(list)
	for i := range clone {
		clone[i].Ref = strings.Clone(clone[i].Ref)
	}
	return clone
}

// shortAuths keeps a failure of a long list readable.
func shortAuths(list []impl.Auth) string {
	if len(list) > 6 {
		return fmt.Sprintf("%v .. (%d)", list[:6], len(list))
	}
	return fmt.Sprint(list)
}

func wantRefOk(ref string) bool {
	for _, b := range []byte(ref) {
		if !within(int(b), 33, 126) {
			return false
		}
	}
	return len(ref) == 12
}

func wantAuthOk(a impl.Auth) bool {
	return wantRefOk(a.Ref) && isAccount(a.Issuer) && isCurrency(a.Cur) && within(a.Amount, 1, mostPaid) && isDay(a.Day)
}

func mayBeTaken(a impl.Auth, p payment) bool {
	if !wantAuthOk(a) || a.Used {
		return false
	}
	// An amount and a tenth of it are eleven tenths of it, down.
	return p.issuer == a.Issuer && p.cur == a.Cur && within(p.day, a.Day, a.Day+mostWait) && within(p.amount, 1, a.Amount*11/10)
}

func wantScore(a impl.Auth, p payment) int {
	if !mayBeTaken(a, p) {
		return -1
	}
	low, high := min(a.Amount, p.amount), max(a.Amount, p.amount)
	return (high-low)*8 + (p.day - a.Day)
}

func wantBest(list []impl.Auth, p payment) int {
	best := -1
	if len(list) > mostAuths {
		return best
	}
	// From the last one on, so that of several the first is the one that stays.
	for i := len(list) - 1; i >= 0; i-- {
		if mayBeTaken(list[i], p) && (best < 0 || wantScore(list[i], p) <= wantScore(list[best], p)) {
			best = i
		}
	}
	return best
}

func wantUse(list []impl.Auth, i int) ([]impl.Auth, bool) {
	if i < 0 || i >= len(list) || list[i].Used {
		return list, false
	}
	return slices.Concat(list[:i], []impl.Auth{used(list[i])}, list[i+1:]), true
}

func wantAdd(list []impl.Auth, a impl.Auth) ([]impl.Auth, bool) {
	refs := map[string]int{}
	for _, one := range list {
		refs[one.Ref]++
	}
	if !wantAuthOk(a) || refs[a.Ref] > 0 || len(list) >= mostAuths {
		return list, false
	}
	return slices.Concat(list, []impl.Auth{a}), true
}

func wantPrune(list []impl.Auth, today int) []impl.Auth {
	if !isDay(today) {
		return nil
	}
	return slices.DeleteFunc(slices.Clone(list), func(a impl.Auth) bool { return a.Used || a.Day < today-mostWait })
}

func wantAuthText(a impl.Auth) string {
	if !wantAuthOk(a) {
		return ""
	}
	scale := []int{1, 10, 100, 1000}[currencyDigits[a.Cur]]
	money := strconv.Itoa(a.Amount / scale)
	if scale > 1 {
		money += "." + strconv.Itoa(scale + a.Amount%scale)[1:]
	}
	state := map[bool]string{true: "used", false: "free"}[a.Used]
	return fmt.Sprintf("%s %d %d %s %s %s", a.Ref, a.Issuer, a.Cur, money, calendarDay(a.Day).Format("2006-01-02"), state)
}

func askAuthOk(t *testing.T, a impl.Auth) {
	t.Helper()
	if got, want := impl.AuthOk(a), wantAuthOk(a); got != want {
		t.Errorf("AuthOk of %#v is %v", a, got)
	}
}

func askScore(t *testing.T, a impl.Auth, p payment) int {
	t.Helper()
	got, want := impl.MatchScore(a, p.issuer, p.cur, p.amount, p.day), wantScore(a, p)
	if got != want {
		t.Errorf("MatchScore of %v and %v = %d, want %d", a, p, got, want)
	}
	return got
}

// askBest holds the place that is found against the second reckoning, and against what the promise says of it.
func askBest(t *testing.T, list []impl.Auth, p payment) int {
	t.Helper()
	best := impl.MatchBest(list, p.issuer, p.cur, p.amount, p.day)
	if want := wantBest(list, p); best != want {
		t.Errorf("MatchBest of %s and %v = %d, want %d", shortAuths(list), p, best, want)
		return best
	}
	if best < -1 || best >= len(list) {
		t.Errorf("MatchBest of %s and %v = %d, which is no place", shortAuths(list), p, best)
		return -1
	}
	if len(list) <= mostAuths {
		askNoneIsNearer(t, list, p, best)
	}
	return best
}

// askNoneIsNearer goes by the program's own scores.
func askNoneIsNearer(t *testing.T, list []impl.Auth, p payment, best int) {
	t.Helper()
	least := -1
	if best >= 0 {
		least = impl.MatchScore(list[best], p.issuer, p.cur, p.amount, p.day)
		if least < 0 {
			t.Errorf("of %s and %v the one at %d is found, which may not be taken", shortAuths(list), p, best)
		}
	}
	for i, a := range list {
		score := impl.MatchScore(a, p.issuer, p.cur, p.amount, p.day)
		if score >= 0 && (best < 0 || score < least || score == least && i < best) {
			t.Errorf("of %s and %v the one at %d (%d) is found, not that at %d (%d)", shortAuths(list), p, best, least, i, score)
		}
	}
}

func askUse(t *testing.T, list []impl.Auth, i int) ([]impl.Auth, bool) {
	t.Helper()
	got, ok := impl.AuthUse(list, i)
	want, wantOk := wantUse(list, i)
	if !slices.Equal(got, want) || ok != wantOk {
		t.Errorf("AuthUse of %s at %d = %s, %v, want %s, %v", shortAuths(list), i, shortAuths(got), ok, shortAuths(want), wantOk)
	}
	return got, ok
}

// askUsedOnce uses one and holds the list that comes out against what the promise says of it.
func askUsedOnce(t *testing.T, list []impl.Auth, i int, p payment) []impl.Auth {
	t.Helper()
	after, ok := askUse(t, list, i)
	if !ok || len(after) != len(list) {
		t.Fatalf("the one at %d of %s is not used: %s, %v", i, shortAuths(list), shortAuths(after), ok)
	}
	for k := range list {
		if k != i && after[k] != list[k] || k == i && (!after[k].Used || after[k] != used(list[k])) {
			t.Errorf("when the one at %d is used, that at %d becomes %v", i, k, after[k])
		}
	}
	if impl.MatchScore(after[i], p.issuer, p.cur, p.amount, p.day) != -1 || askBest(t, after, p) == i {
		t.Errorf("the one at %d of %s is used and found again", i, shortAuths(after))
	}
	if again, ok := impl.AuthUse(after, i); ok || !slices.Equal(again, after) {
		t.Errorf("the one at %d of %s is used twice: %s, %v", i, shortAuths(after), shortAuths(again), ok)
	}
	return after
}

func askAdd(t *testing.T, list []impl.Auth, a impl.Auth) ([]impl.Auth, bool) {
	t.Helper()
	got, ok := impl.AuthAdd(list, a)
	want, wantOk := wantAdd(list, a)
	if !slices.Equal(got, want) || ok != wantOk {
		t.Errorf("AuthAdd of %v to %s = %s, %v, want %s, %v", a, shortAuths(list), shortAuths(got), ok, shortAuths(want), wantOk)
	}
	if ok {
		askAddedOnce(t, list, a, got)
	}
	return got, ok
}

func askAddedOnce(t *testing.T, list []impl.Auth, a impl.Auth, after []impl.Auth) {
	t.Helper()
	if len(after) != len(list)+1 || after[len(list)] != a || !slices.Equal(after[:len(list)], list) {
		t.Errorf("%v does not stand behind %s: %s", a, shortAuths(list), shortAuths(after))
	}
	count := 0
	for _, one := range after {
		if one.Ref == a.Ref {
			count++
		}
	}
	if count != 1 {
		t.Errorf("%v is there %d times", a, count)
	}
	if again, ok := impl.AuthAdd(after, a); ok || !slices.Equal(again, after) {
		t.Errorf("%v is added twice: %s, %v", a, shortAuths(again), ok)
	}
}

func askPrune(t *testing.T, list []impl.Auth, today int) []impl.Auth {
	t.Helper()
	got, want := impl.AuthPrune(list, today), wantPrune(list, today)
	if !slices.Equal(got, want) {
		t.Errorf("AuthPrune of %s on day %d = %s, want %s", shortAuths(list), today, shortAuths(got), shortAuths(want))
	}
	if again := impl.AuthPrune(got, today); !slices.Equal(again, got) {
		t.Errorf("AuthPrune of %s on day %d once more = %s", shortAuths(got), today, shortAuths(again))
	}
	return got
}

func askAuthText(t *testing.T, a impl.Auth) {
	t.Helper()
	if got, want := impl.AuthText(a), wantAuthText(a); got != want {
		t.Errorf("AuthText of %v = %q, want %q", a, got, want)
	}
}

// authChanges are single changes of an authorization that is so, and whether it is still.
var authChanges = []struct {
	what   string
	want   bool
	change func(*impl.Auth)
}{
	{"nothing", true, func(a *impl.Auth) {}},
	{"used", true, func(a *impl.Auth) { a.Used = true }},
	{"no ref", false, func(a *impl.Auth) { a.Ref = "" }},
	{"ref of 1 byte", false, func(a *impl.Auth) { a.Ref = "1" }},
	{"ref of 11 bytes", false, func(a *impl.Auth) { a.Ref = "00000000001" }},
	{"ref of 12 bytes", true, func(a *impl.Auth) { a.Ref = "000000000001" }},
	{"ref of 13 bytes", false, func(a *impl.Auth) { a.Ref = "0000000000001" }},
	{"ref of 24 bytes", false, func(a *impl.Auth) { a.Ref = "000000000001000000000001" }},
	{"ref of letters and signs", true, func(a *impl.Auth) { a.Ref = "aZ09!~_-;=.," }},
	{"ref with a blank ahead", false, func(a *impl.Auth) { a.Ref = " 00000000001" }},
	{"ref with a blank within", false, func(a *impl.Auth) { a.Ref = "00000 000001" }},
	{"ref with a blank behind", false, func(a *impl.Auth) { a.Ref = "00000000000 " }},
	{"ref and a blank", false, func(a *impl.Auth) { a.Ref = "000000000001 " }},
	{"ref of blanks", false, func(a *impl.Auth) { a.Ref = "            " }},
	{"ref with a byte 31", false, func(a *impl.Auth) { a.Ref = "00000\x1f000001" }},
	{"ref with a byte 32", false, func(a *impl.Auth) { a.Ref = "00000\x20000001" }},
	{"ref with a byte 33", true, func(a *impl.Auth) { a.Ref = "00000\x21000001" }},
	{"ref with a byte 126", true, func(a *impl.Auth) { a.Ref = "00000\x7e000001" }},
	{"ref with a byte 127", false, func(a *impl.Auth) { a.Ref = "00000\x7f000001" }},
	{"ref with a newline", false, func(a *impl.Auth) { a.Ref = "00000000001\n" }},
	{"ref with a byte 0", false, func(a *impl.Auth) { a.Ref = "00000000001\x00" }},
	{"ref with a byte 255", false, func(a *impl.Auth) { a.Ref = "\xff00000000001" }},
	{"ref of 12 bytes with a letter of two", false, func(a *impl.Auth) { a.Ref = "0000000000\u00e4" }},
	{"ref of 12 letters with one of two bytes", false, func(a *impl.Auth) { a.Ref = "00000000000\u00e4" }},
	{"issuer -1", false, func(a *impl.Auth) { a.Issuer = -1 }},
	{"issuer 0", false, func(a *impl.Auth) { a.Issuer = 0 }},
	{"issuer 1", true, func(a *impl.Auth) { a.Issuer = 1 }},
	{"issuer 9998", true, func(a *impl.Auth) { a.Issuer = 9998 }},
	{"issuer House", true, func(a *impl.Auth) { a.Issuer = impl.House }},
	{"issuer 10000", false, func(a *impl.Auth) { a.Issuer = 10000 }},
	{"no currency", false, func(a *impl.Auth) { a.Cur = 841 }},
	{"currency 0", false, func(a *impl.Auth) { a.Cur = 0 }},
	{"currency -1", false, func(a *impl.Auth) { a.Cur = -1 }},
	{"currency without digits", true, func(a *impl.Auth) { a.Cur = 392 }},
	{"currency of three digits", true, func(a *impl.Auth) { a.Cur = 48 }},
	{"amount -1", false, func(a *impl.Auth) { a.Amount = -1 }},
	{"amount 0", false, func(a *impl.Auth) { a.Amount = 0 }},
	{"amount 1", true, func(a *impl.Auth) { a.Amount = 1 }},
	{"the greatest amount less 1", true, func(a *impl.Auth) { a.Amount = impl.MaxMoney/10 - 1 }},
	{"the greatest amount", true, func(a *impl.Auth) { a.Amount = impl.MaxMoney / 10 }},
	{"the greatest amount and 1", false, func(a *impl.Auth) { a.Amount = impl.MaxMoney/10 + 1 }},
	{"the greatest money", false, func(a *impl.Auth) { a.Amount = impl.MaxMoney }},
	{"the greatest int as amount", false, func(a *impl.Auth) { a.Amount = greatestInt }},
	{"the least int as amount", false, func(a *impl.Auth) { a.Amount = leastOfInt }},
	{"day -1", false, func(a *impl.Auth) { a.Day = -1 }},
	{"day 0", true, func(a *impl.Auth) { a.Day = 0 }},
	{"the last day", true, func(a *impl.Auth) { a.Day = impl.MaxDay }},
	{"the day behind the last", false, func(a *impl.Auth) { a.Day = impl.MaxDay + 1 }},
	{"the greatest int as day", false, func(a *impl.Auth) { a.Day = greatestInt }},
	{"the least int as day", false, func(a *impl.Auth) { a.Day = leastOfInt }},
}

// badAuths are none, each by one thing alone.
func badAuths() []impl.Auth {
	list := []impl.Auth{{}}
	for i, x := range authChanges {
		a := anyAuth(500+i, 1000, 9000)
		if x.change(&a); !x.want {
			list = append(list, a)
		}
	}
	return list
}

func goodAuths() []impl.Auth {
	var list []impl.Auth
	for i, x := range authChanges {
		a := anyAuth(500+i, 1000, 9000)
		if x.change(&a); x.want {
			list = append(list, a)
		}
	}
	for i, cur := range ledgerCurrencies {
		for k, amount := range []int{1, 9, 10, 99, 100, 999, 1000, 1234567, mostPaid} {
			list = append(list, impl.Auth{Ref: refOf(i*10 + k), Issuer: 1 + i*1000 + k, Cur: cur, Amount: amount, Day: i * 10000, Used: k%2 == 0})
		}
	}
	return list
}

func TestLimitsOfAuths(t *testing.T) {
	if impl.MaxAuths != 100 || impl.AuthDays != 7 {
		t.Error("MaxAuths is", impl.MaxAuths, "and AuthDays is", impl.AuthDays)
	}
}

func TestAuthOkNamed(t *testing.T) {
	for _, x := range authChanges {
		a := anyAuth(1, 1000, 9000)
		x.change(&a)
		if got := impl.AuthOk(a); got != x.want {
			t.Errorf("%s: AuthOk of %v is %v", x.what, a, got)
		}
		if impl.AuthOk(used(a)) != x.want {
			t.Errorf("%s and used: AuthOk of %v is not %v", x.what, a, x.want)
		}
	}
	if impl.AuthOk(impl.Auth{}) {
		t.Error("the zero value is taken")
	}
}

func TestAuthOkByTheRef(t *testing.T) {
	for n := range 40 {
		askAuthOk(t, withRef(anyAuth(1, 1000, 9000), strings.Repeat("7", n)))
		askAuthOk(t, withRef(anyAuth(1, 1000, 9000), strings.Repeat(" ", n)))
	}
	for at := range 12 {
		for b := range 256 {
			ref := "ABCDEFGHIJKL"
			a := withRef(anyAuth(1, 1000, 9000), ref[:at]+oneByte(b)+ref[at+1:])
			if got, want := impl.AuthOk(a), b > 32 && b < 127; got != want {
				t.Errorf("with byte %d at %d: AuthOk is %v", b, at, got)
			}
		}
	}
}

// authFields are the fields of an authorization that are numbers, to change each to anything.
func authFields(a *impl.Auth) []*int {
	return []*int{&a.Issuer, &a.Cur, &a.Amount, &a.Day}
}

func TestAuthOkByTwoFields(t *testing.T) {
	for i := range 4 {
		for k := range 4 {
			for n, x := range caseInts {
				a := anyAuth(1, 1000, 9000)
				*authFields(&a)[i] = x
				askAuthOk(t, a)
				*authFields(&a)[k] = caseInts[(n*7+i)%len(caseInts)]
				askAuthOk(t, a)
				askAuthText(t, a)
			}
		}
	}
}

func TestMatchScoreNamed(t *testing.T) {
	a := anyAuth(1, 500, 9000)
	cases := []struct {
		p    payment
		want int
	}{
		{payment{1, 840, 500, 9000}, 0},
		{payment{1, 840, 500, 9001}, 1},
		{payment{1, 840, 500, 9007}, 7},
		{payment{1, 840, 500, 9008}, -1},
		{payment{1, 840, 500, 8999}, -1},
		{payment{1, 840, 501, 9000}, 8},
		{payment{1, 840, 499, 9000}, 8},
		{payment{1, 840, 499, 9003}, 11},
		{payment{1, 840, 550, 9000}, 400},
		{payment{1, 840, 550, 9002}, 402},
		{payment{1, 840, 550, 9007}, 407},
		{payment{1, 840, 551, 9000}, -1},
		{payment{1, 840, 450, 9000}, 400},
		{payment{1, 840, 449, 9000}, 408},
		{payment{1, 840, 1, 9000}, 3992},
		{payment{1, 840, 1, 9007}, 3999},
		{payment{1, 840, 0, 9000}, -1},
		{payment{1, 840, -1, 9000}, -1},
		{payment{1, 840, -500, 9000}, -1},
		{payment{2, 840, 500, 9000}, -1},
		{payment{0, 840, 500, 9000}, -1},
		{payment{1, 978, 500, 9000}, -1},
		{payment{1, 841, 500, 9000}, -1},
		{payment{840, 1, 500, 9000}, -1},
		{payment{1, 840, 9000, 500}, -1},
	}
	for _, c := range cases {
		if got := impl.MatchScore(a, c.p.issuer, c.p.cur, c.p.amount, c.p.day); got != c.want {
			t.Errorf("MatchScore of %v and %v = %d, want %d", a, c.p, got, c.want)
		}
		if got := impl.MatchScore(used(a), c.p.issuer, c.p.cur, c.p.amount, c.p.day); got != -1 {
			t.Errorf("MatchScore of %v, which is used, and %v = %d", a, c.p, got)
		}
		askScore(t, a, c.p)
	}
}

// A tenth more may be paid than was authorized, down; the answers are counted by hand.
func TestMatchScoreAtTheTenth(t *testing.T) {
	cases := []struct{ amount, greatest int }{
		{1, 1}, {2, 2}, {8, 8}, {9, 9}, {10, 11}, {11, 12}, {18, 19}, {19, 20}, {20, 22}, {29, 31}, {30, 33}, {99, 108}, {100, 110},
		{109, 119}, {110, 121}, {999, 1098}, {1000, 1100}, {99999999999, 109999999998}, {100000000000, 110000000000},
	}
	for _, c := range cases {
		a := anyAuth(1, c.amount, 9000)
		for i := range 3 {
			if got := impl.MatchScore(a, 1, 840, c.greatest, 9000+i); got != 8*(c.greatest-c.amount)+i {
				t.Errorf("%d of %d authorized, %d days behind: %d", c.greatest, c.amount, i, got)
			}
			if got := impl.MatchScore(a, 1, 840, c.amount, 9000+i); got != i {
				t.Errorf("all of %d authorized, %d days behind: %d", c.amount, i, got)
			}
			if got := impl.MatchScore(a, 1, 840, 1, 9000+i); got != 8*(c.amount-1)+i {
				t.Errorf("1 of %d authorized, %d days behind: %d", c.amount, i, got)
			}
			if got := impl.MatchScore(a, 1, 840, c.greatest+1, 9000+i); got != -1 {
				t.Errorf("%d of %d authorized, %d days behind: %d", c.greatest+1, c.amount, i, got)
			}
			if got := impl.MatchScore(a, 1, 840, 0, 9000+i); got != -1 {
				t.Errorf("0 of %d authorized, %d days behind: %d", c.amount, i, got)
			}
		}
	}
}

func TestMatchScoreByTheAmounts(t *testing.T) {
	for amount := 1; amount <= 130; amount++ {
		for paid := -2; paid <= 150; paid++ {
			askScore(t, anyAuth(1, amount, 9000), payment{1, 840, paid, 9003})
		}
	}
	for _, amount := range []int{1, 9, 10, 19, 1000, mostPaid - 1, mostPaid} {
		for _, paid := range slices.Concat(edgeInts, []int{amount - 1, amount, amount + 1, amount * 11 / 10, amount*11/10 + 1, amount * 2}) {
			askScore(t, anyAuth(1, amount, 9000), payment{1, 840, paid, 9000})
		}
	}
}

func TestMatchScoreByTheDays(t *testing.T) {
	for _, day := range []int{0, 1, 6, 7, 8, 9000, lastDay - 8, lastDay - 7, lastDay - 6, lastDay - 1, lastDay} {
		a := anyAuth(1, 1000, day)
		for behind := -3; behind <= 12; behind++ {
			want := behind
			if behind < 0 || behind > 7 {
				want = -1
			}
			if got := impl.MatchScore(a, 1, 840, 1000, day+behind); got != want {
				t.Errorf("of day %d on day %d: %d, want %d", day, day+behind, got, want)
			}
			askScore(t, a, payment{1, 840, 999, day + behind})
		}
		for _, paid := range edgeDays {
			askScore(t, a, payment{1, 840, 1000, paid})
		}
	}
}

func TestMatchScoreByTheIssuerAndTheCurrency(t *testing.T) {
	for _, issuer := range accountInts {
		for _, cur := range currencyInts {
			a := impl.Auth{Ref: refOf(1), Issuer: issuer, Cur: cur, Amount: 1000, Day: 9000}
			want := -1
			if isAccount(issuer) && isCurrency(cur) {
				want = 82
			}
			if got := askScore(t, a, payment{issuer, cur, 1010, 9002}); got != want {
				t.Errorf("of issuer %d and currency %d: %d, want %d", issuer, cur, got, want)
			}
			for _, other := range accountInts {
				askScore(t, a, payment{other, cur, 1000, 9000})
			}
			for _, other := range currencyInts {
				askScore(t, a, payment{issuer, other, 1000, 9000})
			}
		}
	}
}

// Not even what it says itself may be taken of one that is none.
func TestMatchScoreOfNoAuth(t *testing.T) {
	for _, a := range badAuths() {
		for _, amount := range append(slices.Clone(edgeInts), a.Amount, 1000) {
			for _, day := range append(slices.Clone(edgeDays), a.Day, 9000) {
				if got := impl.MatchScore(a, a.Issuer, a.Cur, amount, day); got != -1 {
					t.Errorf("MatchScore of %v and %d on day %d = %d", a, amount, day, got)
				}
			}
		}
	}
}

func TestMatchBestNamed(t *testing.T) {
	a, b, c := anyAuth(1, 500, 9000), anyAuth(2, 490, 9000), anyAuth(3, 500, 9003)
	other, euros := a, a
	other.Issuer, euros.Cur = 2, 978
	cases := []struct {
		what string
		list []impl.Auth
		p    payment
		want int
	}{
		{"none", nil, payment{1, 840, 500, 9000}, -1},
		{"one", []impl.Auth{a}, payment{1, 840, 500, 9000}, 0},
		{"one, too little", []impl.Auth{a}, payment{1, 840, 551, 9000}, -1},
		{"the nearer amount first", []impl.Auth{a, b}, payment{1, 840, 500, 9000}, 0},
		{"the nearer amount last", []impl.Auth{b, a}, payment{1, 840, 500, 9000}, 1},
		{"nearer to the less", []impl.Auth{a, b}, payment{1, 840, 494, 9000}, 1},
		{"equally near, from both sides", []impl.Auth{a, b}, payment{1, 840, 495, 9000}, 0},
		{"equally near, the other one first", []impl.Auth{b, a}, payment{1, 840, 495, 9000}, 0},
		{"the nearer day last", []impl.Auth{a, c}, payment{1, 840, 500, 9003}, 1},
		{"the nearer day first", []impl.Auth{c, a}, payment{1, 840, 500, 9003}, 0},
		{"a day that did not come yet", []impl.Auth{c, a}, payment{1, 840, 500, 9002}, 1},
		{"one unit counts for more than seven days", []impl.Auth{anyAuth(1, 501, 9007), a}, payment{1, 840, 500, 9007}, 1},
		{"eight days are too many, and a unit is not", []impl.Auth{anyAuth(1, 501, 9008), a}, payment{1, 840, 500, 9008}, 0},
		{"too far behind", []impl.Auth{a, b}, payment{1, 840, 500, 9008}, -1},
		{"the nearest is used", []impl.Auth{used(a), b}, payment{1, 840, 500, 9000}, 1},
		{"all are used", []impl.Auth{used(a), used(b)}, payment{1, 840, 500, 9000}, -1},
		{"the nearest is of another issuer", []impl.Auth{other, b}, payment{1, 840, 500, 9000}, 1},
		{"the nearest is of another currency", []impl.Auth{euros, b}, payment{1, 840, 500, 9000}, 1},
		{"the nearest is none", []impl.Auth{withRef(a, "short"), b}, payment{1, 840, 500, 9000}, 1},
		{"the nearest does not reach", []impl.Auth{anyAuth(1, 99, 9000), anyAuth(2, 200, 9000)}, payment{1, 840, 109, 9000}, 1},
		{"no currency", []impl.Auth{a, b}, payment{1, 841, 500, 9000}, -1},
		{"three alike", authsOf(500, 500, 500), payment{1, 840, 500, 9000}, 0},
		{"three alike behind a farther one", authsOf(501, 500, 500, 500), payment{1, 840, 500, 9000}, 1},
		{"the same twice", []impl.Auth{b, a, a, b}, payment{1, 840, 500, 9000}, 1},
	}
	for _, x := range cases {
		if got := impl.MatchBest(x.list, x.p.issuer, x.p.cur, x.p.amount, x.p.day); got != x.want {
			t.Errorf("%s: %d, want %d", x.what, got, x.want)
		}
		askBest(t, x.list, x.p)
	}
}

// Each row of so many places, each place of one of four kinds: nearest from above, nearest from below, farther, and not to be taken.
func TestMatchBestWhereverTheyStand(t *testing.T) {
	kinds := []impl.Auth{anyAuth(1, 1010, 9000), anyAuth(2, 990, 9000), anyAuth(3, 1011, 9000), used(anyAuth(4, 1000, 9000))}
	for size := range 8 {
		for row := range 1 << (2 * size) {
			list := make([]impl.Auth, size)
			want, found := -1, 2
			for i := range list {
				kind := row >> (2 * i) & 3
				list[i] = kinds[kind]
				if rank := []int{0, 0, 1, 2}[kind]; rank < found {
					want, found = i, rank
				}
			}
			if got := impl.MatchBest(list, 1, 840, 1000, 9000); got != want {
				t.Fatalf("MatchBest of %v = %d, want %d", list, got, want)
			}
		}
	}
}

// Two, and then three, that are equally near stand at every place of a list of many that are farther.
func TestMatchBestOfSeveralTheFirst(t *testing.T) {
	for _, size := range []int{2, 3, 10, mostAuths} {
		for i := range size {
			for k := i; k < size; k++ {
				list := manyAuths(size)
				list[i] = anyAuth(1000, 805, 9004)
				list[k] = anyAuth(1001, 795, 9004)
				last := (k + size) / 2
				list[last] = anyAuth(1002, 805, 9004)
				if got := impl.MatchBest(list, 1, 840, 800, 9004); got != i {
					t.Fatalf("of %d, with those at %d, %d and %d equally near: %d", size, i, k, last, got)
				}
			}
		}
	}
}

// Several are equally near by an amount and by days together only where the amounts are.
func TestMatchBestByAmountsAndDays(t *testing.T) {
	var list []impl.Auth
	for day := 8990; day <= 9002; day++ {
		for _, amount := range []int{997, 998, 999, 1000, 1001, 1002} {
			list = append(list, anyAuth(len(list), amount, day))
		}
	}
	for day := 8985; day <= 9012; day++ {
		for amount := 990; amount <= 1110; amount++ {
			askBest(t, list, payment{1, 840, amount, day})
		}
	}
	slices.Reverse(list)
	for day := 8985; day <= 9012; day++ {
		for amount := 990; amount <= 1110; amount++ {
			askBest(t, list, payment{1, 840, amount, day})
		}
	}
}

func TestMatchBestByTheCount(t *testing.T) {
	for _, size := range []int{0, 1, 2, 99, 100, 101, 102, 200, 1000} {
		list := manyAuths(size)
		for i := range list {
			list[i].Amount = 2000
		}
		want := -1
		if size > 0 && size <= 100 {
			want = size - 1
			list[want].Amount = 1000
		}
		if got := askBest(t, list, payment{1, 840, 1000, 9004}); got != want {
			t.Errorf("of %d the last one is the nearest, and %d is found", size, got)
		}
	}
	// The limit is one of the list, not of those that may be taken.
	list := manyAuths(101)
	for i := range list {
		list[i].Used = i != 50
	}
	if got := impl.MatchBest(list, 1, 840, 1000, 9004); got != -1 {
		t.Errorf("of 101 the one at %d is found", got)
	}
	if got := impl.MatchBest(list[1:], 1, 840, 1000, 9004); got != 49 {
		t.Errorf("of 100 the one at %d is found", got)
	}
}

func TestMatchBestPassesByWhatIsNone(t *testing.T) {
	near := anyAuth(1, 1100, 9000)
	for _, bad := range badAuths() {
		p := payment{bad.Issuer, bad.Cur, bad.Amount, bad.Day}
		if got := impl.MatchBest([]impl.Auth{bad}, p.issuer, p.cur, p.amount, p.day); got != -1 {
			t.Errorf("%v is found", bad)
		}
		askBest(t, []impl.Auth{bad, near, bad}, p)
		if got := impl.MatchBest([]impl.Auth{bad, bad, near, bad}, 1, 840, 1000, 9000); got != 2 {
			t.Errorf("beside %v that at %d is found", bad, got)
		}
	}
}

// All that may be taken are taken one by one, the nearest first and of several the first; then none is found.
func TestEachIsTakenOnce(t *testing.T) {
	thrown := chance(10)
	for n := range 60 {
		p := payment{1, 840, 1000, 9000}
		var list []impl.Auth
		for i := range thrown.of([]int{0, 1, 2, 5, 30, mostAuths}) {
			a := anyAuth(i, 1000+thrown.below(5)-2, 9000-thrown.below(9))
			a.Used = thrown.below(9) == 0
			a.Issuer = 1 + thrown.below(6)/5
			list = append(list, a)
		}
		var order []int
		for i, a := range list {
			if mayBeTaken(a, p) {
				order = append(order, i)
			}
		}
		slices.SortStableFunc(order, func(i, k int) int { return wantScore(list[i], p) - wantScore(list[k], p) })
		for _, want := range order {
			best := askBest(t, list, p)
			if best != want {
				t.Fatalf("list %d: that at %d is found, want %d", n, best, want)
			}
			list = askUsedOnce(t, list, best, p)
		}
		if got := askBest(t, list, p); got != -1 {
			t.Errorf("list %d: all are taken, and that at %d is found", n, got)
		}
	}
}

func TestAuthUseNamed(t *testing.T) {
	list := authsOf(500, 490, 480)
	for i := range list {
		got, ok := impl.AuthUse(list, i)
		want := authsOf(500, 490, 480)
		want[i].Used = true
		if !ok || !slices.Equal(got, want) {
			t.Errorf("at %d: %v, %v", i, got, ok)
		}
		again, ok := impl.AuthUse(got, i)
		if ok || !slices.Equal(again, want) {
			t.Errorf("at %d once more: %v, %v", i, again, ok)
		}
		other, ok := impl.AuthUse(got, (i+1)%3)
		want[(i+1)%3].Used = true
		if !ok || !slices.Equal(other, want) {
			t.Errorf("at %d and then behind it: %v, %v", i, other, ok)
		}
	}
	for _, i := range []int{-1, 3, 4, -2, -3, leastOfInt, greatestInt, 1 << 32} {
		if got, ok := impl.AuthUse(list, i); ok || !slices.Equal(got, list) {
			t.Errorf("at %d: %v, %v", i, got, ok)
		}
	}
	for _, i := range []int{-1, 0, 1} {
		if got, ok := impl.AuthUse(nil, i); ok || len(got) > 0 {
			t.Errorf("of none at %d: %v, %v", i, got, ok)
		}
	}
}

func TestAuthUseAtEachPlace(t *testing.T) {
	for _, size := range []int{0, 1, 2, 3, mostAuths - 1, mostAuths, mostAuths + 1, 250} {
		list := manyAuths(size)
		for _, i := range slices.Concat(edgeInts, daysFrom(-2, 1, size+4)) {
			after, ok := askUse(t, list, i)
			if within(i, 0, size-1) != ok {
				t.Errorf("of %d that at %d: %v", size, i, ok)
			}
			if ok {
				askUsedOnce(t, list, i, payment{1, 840, list[i].Amount, list[i].Day})
				askUse(t, after, size-1-i)
			}
		}
	}
}

// Whether what stands there is an authorization is not asked.
func TestAuthUseOfNoAuth(t *testing.T) {
	for _, bad := range badAuths() {
		list := []impl.Auth{anyAuth(1, 1000, 9000), bad, anyAuth(2, 1000, 9000)}
		if got, ok := askUse(t, list, 1); !ok || got[1] != used(bad) {
			t.Errorf("%v is not used: %v", bad, got)
		}
		askUse(t, list, 0)
		list[1].Used = true
		if got, ok := askUse(t, list, 1); ok {
			t.Errorf("%v is used twice: %v", bad, got)
		}
	}
}

func TestAuthAddNamed(t *testing.T) {
	a, b := anyAuth(1, 500, 9000), anyAuth(2, 490, 9001)
	likeA := withRef(b, a.Ref)
	cases := []struct {
		what string
		list []impl.Auth
		a    impl.Auth
		ok   bool
	}{
		{"to none", nil, a, true},
		{"to one", []impl.Auth{a}, b, true},
		{"to one that is used", []impl.Auth{used(a)}, b, true},
		{"one that is used", []impl.Auth{a}, used(b), true},
		{"the same", []impl.Auth{a}, a, false},
		{"the same, used by now", []impl.Auth{used(a)}, a, false},
		{"another with the same ref", []impl.Auth{a}, likeA, false},
		{"another with the ref of the first", []impl.Auth{a, b}, likeA, false},
		{"another with the ref of the last", []impl.Auth{b, a}, likeA, false},
		{"all alike but the ref", []impl.Auth{a}, withRef(a, b.Ref), true},
		{"a ref that differs in its last byte", []impl.Auth{a}, withRef(a, a.Ref[:11]+"x"), true},
		{"a ref that differs in its first byte", []impl.Auth{a}, withRef(a, "r"+a.Ref[1:]), true},
		{"the ref of one that is none", []impl.Auth{withRef(impl.Auth{}, a.Ref)}, a, false},
		{"beside one that is none", []impl.Auth{{}}, a, true},
		{"the zero value", []impl.Auth{a}, impl.Auth{}, false},
		{"the zero value to none", nil, impl.Auth{}, false},
	}
	for _, c := range cases {
		want := c.list
		if c.ok {
			want = slices.Concat(c.list, []impl.Auth{c.a})
		}
		if got, ok := impl.AuthAdd(c.list, c.a); ok != c.ok || !slices.Equal(got, want) {
			t.Errorf("%s: %v, %v", c.what, got, ok)
		}
		askAdd(t, c.list, c.a)
	}
}

func TestAuthAddByTheCount(t *testing.T) {
	var list []impl.Auth
	for i := range mostAuths {
		after, ok := askAdd(t, list, anyAuth(i, 1000, 9000))
		if !ok {
			t.Fatalf("to %d none is added", i)
		}
		list = after
	}
	if !slices.EqualFunc(list, daysFrom(0, 1, mostAuths), func(a impl.Auth, i int) bool { return a == anyAuth(i, 1000, 9000) }) {
		t.Error("they do not stand as they were added:", shortAuths(list))
	}
	for _, size := range []int{100, 101, 102, 300} {
		list := manyAuths(size)
		if got, ok := askAdd(t, list, anyAuth(1000, 1000, 9000)); ok || !slices.Equal(got, list) {
			t.Errorf("to %d one is added: %d", size, len(got))
		}
	}
	// One that is used, or cannot be found any more, takes a place all the same.
	for i := range list {
		list[i].Used, list[i].Day = true, 0
	}
	if _, ok := askAdd(t, list, anyAuth(1000, 1000, 9000)); ok {
		t.Error("to 100 that are used one is added")
	}
	if _, ok := askAdd(t, list[1:], anyAuth(1000, 1000, 9000)); !ok {
		t.Error("to 99 that are used none is added")
	}
}

func TestAuthAddRefusesARefAtEachPlace(t *testing.T) {
	for _, size := range []int{1, 2, 3, 50, mostAuths - 1} {
		list := manyAuths(size)
		for i := range list {
			a := impl.Auth{Ref: list[i].Ref, Issuer: 7, Cur: 978, Amount: 3, Day: 1}
			if got, ok := askAdd(t, list, a); ok || !slices.Equal(got, list) {
				t.Errorf("of %d that at %d has the ref, and it is added", size, i)
			}
			rest := slices.Concat(list[:i], list[i+1:])
			if _, ok := askAdd(t, rest, a); !ok {
				t.Errorf("of %d that at %d is gone, and its ref is not added", size, i)
			}
		}
	}
}

func TestAuthAddOfNoAuth(t *testing.T) {
	for _, bad := range badAuths() {
		for _, size := range []int{0, 1, 20, mostAuths - 1, mostAuths, mostAuths + 1} {
			list := manyAuths(size)
			for _, a := range []impl.Auth{bad, used(bad)} {
				if got, ok := impl.AuthAdd(list, a); ok || !slices.Equal(got, list) {
					t.Errorf("to %d the one %v is added", size, a)
				}
			}
		}
		good := anyAuth(1000, 1000, 9000)
		if got, ok := askAdd(t, []impl.Auth{bad, bad}, good); !ok || !slices.Equal(got, []impl.Auth{bad, bad, good}) {
			t.Errorf("behind %v: %v, %v", bad, got, ok)
		}
	}
	for i, good := range goodAuths() {
		if _, ok := askAdd(t, manyAuths(20), withRef(good, "good"+refOf(i)[4:])); !ok {
			t.Errorf("%v is not added", good)
		}
	}
}

// What is added is found, where nothing else is nearer, and used once.
func TestWhatIsAddedIsFoundAndUsedOnce(t *testing.T) {
	for _, size := range []int{0, 1, 10, mostAuths - 1} {
		list := manyAuths(size)
		list, ok := askAdd(t, list, anyAuth(1000, 5000, 9003))
		if !ok {
			t.Fatal("it is not added to", size)
		}
		p := payment{1, 840, 5500, 9010}
		if got := askBest(t, list, p); got != size {
			t.Fatalf("behind %d it is not found: %d", size, got)
		}
		list = askUsedOnce(t, list, size, p)
		if got := askBest(t, list, p); got != -1 {
			t.Errorf("behind %d it is used, and that at %d is found", size, got)
		}
		if _, ok := askAdd(t, list, anyAuth(1000, 5000, 9003)); ok {
			t.Errorf("behind %d it is used, and added again", size)
		}
	}
}

func TestAuthPruneNamed(t *testing.T) {
	a, b, c := anyAuth(1, 500, 9000), anyAuth(2, 490, 9001), anyAuth(3, 480, 8999)
	cases := []struct {
		what  string
		list  []impl.Auth
		today int
		want  []impl.Auth
	}{
		{"none", nil, 9000, nil},
		{"on the day", []impl.Auth{a}, 9000, []impl.Auth{a}},
		{"ahead of the day", []impl.Auth{a}, 8000, []impl.Auth{a}},
		{"on the last day for it", []impl.Auth{a}, 9007, []impl.Auth{a}},
		{"a day more", []impl.Auth{a}, 9008, nil},
		{"in their order", []impl.Auth{b, a, c}, 9000, []impl.Auth{b, a, c}},
		{"one goes", []impl.Auth{b, a, c}, 9007, []impl.Auth{b, a}},
		{"the first goes", []impl.Auth{c, a, b}, 9007, []impl.Auth{a, b}},
		{"the one between goes", []impl.Auth{b, c, a}, 9007, []impl.Auth{b, a}},
		{"two go", []impl.Auth{c, a, b}, 9008, []impl.Auth{b}},
		{"all go", []impl.Auth{c, a, b}, 9009, nil},
		{"used", []impl.Auth{used(a)}, 9000, nil},
		{"some are used", []impl.Auth{used(b), a, used(c), c}, 9000, []impl.Auth{a, c}},
		{"twice the same", []impl.Auth{a, a}, 9000, []impl.Auth{a, a}},
		{"one that is none but not used", []impl.Auth{{Day: 9000}, a}, 9000, []impl.Auth{{Day: 9000}, a}},
		{"the zero value long ago", []impl.Auth{{}, a}, 9000, []impl.Auth{a}},
		{"day 0 on day 0", []impl.Auth{anyAuth(1, 1, 0)}, 0, []impl.Auth{anyAuth(1, 1, 0)}},
		{"day 0 on day 7", []impl.Auth{anyAuth(1, 1, 0)}, 7, []impl.Auth{anyAuth(1, 1, 0)}},
		{"day 0 on day 8", []impl.Auth{anyAuth(1, 1, 0)}, 8, nil},
		{"day -1 on day 6", []impl.Auth{anyAuth(1, 1, -1)}, 6, []impl.Auth{anyAuth(1, 1, -1)}},
		{"day -1 on day 7", []impl.Auth{anyAuth(1, 1, -1)}, 7, nil},
		{"the last day on it", []impl.Auth{anyAuth(1, 1, 80000)}, 80000, []impl.Auth{anyAuth(1, 1, 80000)}},
		{"seven ahead on the last day", []impl.Auth{anyAuth(1, 1, 79993)}, 80000, []impl.Auth{anyAuth(1, 1, 79993)}},
		{"eight ahead on the last day", []impl.Auth{anyAuth(1, 1, 79992)}, 80000, nil},
		{"today -1", []impl.Auth{a, anyAuth(1, 1, 0)}, -1, nil},
		{"today behind the last day", []impl.Auth{a, anyAuth(1, 1, 80000)}, 80001, nil},
		{"today the least int", []impl.Auth{a}, leastOfInt, nil},
		{"today the greatest int", []impl.Auth{a, anyAuth(1, 1, greatestInt)}, greatestInt, nil},
	}
	for _, x := range cases {
		if got := impl.AuthPrune(x.list, x.today); !slices.Equal(got, x.want) {
			t.Errorf("%s: %v, want %v", x.what, got, x.want)
		}
		askPrune(t, x.list, x.today)
	}
}

// Each row of so many places, each place of one that stays, another that stays, one that is used and one that is too old.
func TestAuthPruneWhereverTheyStand(t *testing.T) {
	kinds := []impl.Auth{anyAuth(1, 10, 9000), anyAuth(2, 20, 9050), used(anyAuth(3, 30, 9007)), anyAuth(4, 40, 8999)}
	for size := range 7 {
		for row := range 1 << (2 * size) {
			var list, want []impl.Auth
			for i := range size {
				kind := row >> (2 * i) & 3
				list = append(list, kinds[kind])
				if kind < 2 {
					want = append(want, kinds[kind])
				}
			}
			if got := impl.AuthPrune(list, 9007); !slices.Equal(got, want) {
				t.Fatalf("AuthPrune of %v = %v, want %v", list, got, want)
			}
		}
	}
}

func TestAuthPruneOnAnyDay(t *testing.T) {
	for _, size := range []int{0, 1, 2, mostAuths, mostAuths + 1, 300} {
		list := manyAuths(size)
		for i := range list {
			list[i].Day, list[i].Used = edgeDays[i%len(edgeDays)], i%7 == 3
		}
		for _, today := range slices.Concat(edgeDays, edgeInts, daysFrom(lastDay-20, 1, 40), daysFrom(-20, 1, 100)) {
			askPrune(t, list, today)
		}
	}
}

// What goes could not be found on that day or on a later one any more, and what stays is found as ever.
func TestPruningLosesNothingThatIsFound(t *testing.T) {
	thrown := chance(77)
	for range 400 {
		var list []impl.Auth
		for i := range thrown.below(20) {
			a := anyAuth(i, 1000+thrown.below(3), 9000+thrown.below(20))
			a.Used = thrown.below(4) == 0
			list = append(list, a)
		}
		today := 9000 + thrown.below(30)
		pruned := askPrune(t, list, today)
		for day := today; day < today+10; day++ {
			p := payment{1, 840, 1001, day}
			before, after := askBest(t, list, p), askBest(t, pruned, p)
			if (before < 0) != (after < 0) || before >= 0 && list[before] != pruned[after] {
				t.Fatalf("on day %d: that at %d is found, pruned on day %d that at %d", day, before, today, after)
			}
		}
	}
}

func TestAuthTextNamed(t *testing.T) {
	cases := []struct {
		a    impl.Auth
		want string
	}{
		{impl.Auth{Ref: "000000000001", Issuer: 1, Cur: 840, Amount: 500, Day: 0}, "000000000001 1 840 5.00 2000-01-01 free"},
		{impl.Auth{Ref: "000000000001", Issuer: 1, Cur: 840, Amount: 500, Day: 0, Used: true}, "000000000001 1 840 5.00 2000-01-01 used"},
		{impl.Auth{Ref: "aZ09!~_-;=.,", Issuer: 9999, Cur: 392, Amount: 1, Day: 59}, "aZ09!~_-;=., 9999 392 1 2000-02-29 free"},
		{impl.Auth{Ref: "ABCDEFGHIJKL", Issuer: 42, Cur: 48, Amount: 7, Day: 366, Used: true}, "ABCDEFGHIJKL 42 48 0.007 2001-01-01 used"},
		{impl.Auth{Ref: "ABCDEFGHIJKL", Issuer: 42, Cur: 36, Amount: 7, Day: 365}, "ABCDEFGHIJKL 42 36 0.07 2000-12-31 free"},
		{impl.Auth{Ref: "ABCDEFGHIJKL", Issuer: 42, Cur: 978, Amount: 100000000000, Day: 80000}, "ABCDEFGHIJKL 42 978 1000000000.00 2219-01-13 free"},
		{impl.Auth{}, ""},
		{impl.Auth{Ref: "000000000001", Issuer: 0, Cur: 840, Amount: 500}, ""},
		{impl.Auth{Ref: "000000000001", Issuer: 1, Cur: 841, Amount: 500}, ""},
		{impl.Auth{Ref: "000000000001", Issuer: 1, Cur: 840, Amount: 0}, ""},
		{impl.Auth{Ref: "000000000001", Issuer: 1, Cur: 840, Amount: 500, Day: -1}, ""},
		{impl.Auth{Ref: "0000000000 1", Issuer: 1, Cur: 840, Amount: 500}, ""},
		{impl.Auth{Ref: "00000000001", Issuer: 1, Cur: 840, Amount: 500, Used: true}, ""},
	}
	for _, c := range cases {
		if got := impl.AuthText(c.a); got != c.want {
			t.Errorf("AuthText of %v = %q, want %q", c.a, got, c.want)
		}
		askAuthText(t, c.a)
	}
}

func TestAuthText(t *testing.T) {
	for _, a := range goodAuths() {
		askAuthText(t, a)
		askAuthText(t, used(a))
		words := strings.Split(impl.AuthText(a), " ")
		if len(words) != 6 || words[0] != a.Ref || words[3] != impl.MoneyText(a.Amount, a.Cur) || words[4] != impl.DateText(a.Day) {
			t.Errorf("AuthText of %v has the words %q", a, words)
		}
	}
	for _, a := range badAuths() {
		if impl.AuthText(a) != "" || impl.AuthText(used(a)) != "" {
			t.Errorf("AuthText of %v, which is none: %q", a, impl.AuthText(a))
		}
	}
}

// anythingAsAuth is an authorization or nearly one.
func anythingAsAuth(thrown *chance) impl.Auth {
	a := anyAuth(thrown.below(30), thrown.of([]int{1, 9, 10, 19, 1000, 1001, mostPaid}), 9000+thrown.below(4))
	for range thrown.below(3) {
		if thrown.below(2) == 0 {
			*authFields(&a)[thrown.below(4)] = thrown.of(caseInts)
		}
	}
	if thrown.below(9) == 0 {
		a.Ref = someText(thrown.below(15), thrown.below(256))
	}
	a.Used = thrown.below(5) == 0
	return a
}

// Every function is asked with anything, and answers.
func TestAuthsAnswerAnything(t *testing.T) {
	thrown := chance(33)
	for n := range 6000 {
		size := thrown.below(12)
		if n%40 == 0 {
			size = thrown.of([]int{99, 100, 101, 130})
		}
		var list []impl.Auth
		for range size {
			list = append(list, anythingAsAuth(&thrown))
		}
		a := anythingAsAuth(&thrown)
		p := payment{a.Issuer, a.Cur, thrown.of([]int{a.Amount, 1, 10, 1000, thrown.of(caseInts)}), thrown.of([]int{a.Day, 9000, 9005, thrown.of(edgeDays)})}
		askAuthOk(t, a)
		askAuthText(t, a)
		askScore(t, a, p)
		askBest(t, list, p)
		askBest(t, append(list, a), p)
		askUse(t, list, thrown.of([]int{-1, 0, size / 2, size - 1, size, thrown.of(edgeInts)}))
		askAdd(t, list, a)
		askPrune(t, list, thrown.of([]int{a.Day, 9000, 9009, thrown.of(edgeDays)}))
	}
}

// listsOfAuths are lists of all sizes, with what is none among them.
func listsOfAuths() [][]impl.Auth {
	lists := [][]impl.Auth{nil, badAuths(), goodAuths()}
	for _, size := range []int{1, 2, 3, 17, mostAuths - 1, mostAuths, mostAuths + 1, 150} {
		list := manyAuths(size)
		for i := range list {
			list[i].Used = i%5 == 2
		}
		lists = append(lists, manyAuths(size), list)
	}
	return lists
}

// authCalls are the calls that answer a list: each with and without a refusal.
func authCalls(list []impl.Auth) []func(list []impl.Auth) []impl.Auth {
	var calls []func(list []impl.Auth) []impl.Auth
	for _, i := range []int{leastOfInt, -1, 0, len(list) / 2, len(list) - 1, len(list), greatestInt} {
		calls = append(calls, func(list []impl.Auth) []impl.Auth { got, _ := impl.AuthUse(list, i); return got })
	}
	for _, a := range []impl.Auth{anyAuth(7777, 1000, 9000), anyAuth(0, 1000, 9000), {}, used(anyAuth(7778, 1, 0))} {
		calls = append(calls, func(list []impl.Auth) []impl.Auth { got, _ := impl.AuthAdd(list, a); return got })
	}
	for _, today := range []int{-1, 0, 7, 8, 9000, 9008, 9010, 9020, lastDay, lastDay + 1} {
		calls = append(calls, func(list []impl.Auth) []impl.Auth { return impl.AuthPrune(list, today) })
	}
	return calls
}

func TestAuthsAreNotWrittenInto(t *testing.T) {
	for _, list := range listsOfAuths() {
		n := len(list)
		room := append(cloneAuths(list), anyAuth(7777, 5, 9000), used(anyAuth(8888, 6, 9001)), impl.Auth{}, impl.Auth{Ref: "kept", Day: -5})
		kept := cloneAuths(room)
		for range 2 {
			for _, call := range authCalls(list) {
				call(room[:n])
			}
			for _, day := range []int{-1, 0, 9000, 9004, 9020} {
				impl.MatchBest(room[:n], 1, 840, 1010, day)
			}
		}
		if !slices.Equal(room, kept) {
			t.Errorf("%s, or the room behind it, was written into", shortAuths(kept[:n]))
		}
	}
}

// What stands behind the end of a list is no part of it.
func TestAuthsBehindTheListAreNotRead(t *testing.T) {
	room := []impl.Auth{anyAuth(1, 900, 9000), anyAuth(2, 1000, 9000), anyAuth(3, 950, 9000)}
	for n, want := range []int{-1, -1, 1, 1} {
		if got := impl.MatchBest(room[:n], 1, 840, 1000, 9000); got != want {
			t.Errorf("of the first %d: %d, want %d", n, got, want)
		}
	}
	if got, ok := impl.AuthUse(room[:1], 1); ok || !slices.Equal(got, room[:1]) {
		t.Errorf("behind the end: %v, %v", got, ok)
	}
	if got, ok := impl.AuthAdd(room[:1], room[1]); !ok || !slices.Equal(got, room[:2]) {
		t.Errorf("one that stands behind the end: %v, %v", got, ok)
	}
	if got := impl.AuthPrune(room[:2], 9000); !slices.Equal(got, room[:2]) {
		t.Errorf("pruned: %v", got)
	}
}

// overwriteAuths writes into all the room that a list has.
func overwriteAuths(list []impl.Auth) {
	room := list[:cap(list)]
	for i := range room {
		room[i] = impl.Auth{Ref: "changed", Issuer: -1, Day: -2}
	}
}

func refsOf(lists ...[]impl.Auth) []string {
	var refs []string
	for _, a := range slices.Concat(lists...) {
		refs = append(refs, a.Ref)
	}
	return refs
}

func TestListsOfAuthsAreNewMemory(t *testing.T) {
	for _, list := range listsOfAuths() {
		for i, call := range authCalls(list) {
			mine, kept := cloneAuths(list), cloneAuths(list)
			one, two := call(mine), call(mine)
			want := cloneAuths(two)
			for k, ref := range refsOf(one) {
				// What is answered at a place stood there, or behind it, in the list.
				for _, other := range refsOf(mine[min(k, len(mine)):], two[k:]) {
					if len(ref) > 1 && shares(ref, other) {
						t.Fatalf("call %d of %s: the one at %d shares its ref", i, shortAuths(kept), k)
					}
				}
			}
			overwriteAuths(one)
			if !slices.Equal(mine, kept) || !slices.Equal(two, want) || !slices.Equal(call(mine), want) {
				t.Fatalf("call %d of %s: an answer that is changed changes another thing", i, shortAuths(kept))
			}
			overwriteAuths(mine)
			if !slices.Equal(two, want) {
				t.Fatalf("call %d of %s: a list that is changed changes an answer", i, shortAuths(kept))
			}
		}
	}
}

// In the spare room of an answer nothing stands that was left out.
func TestNothingStandsBehindWhatIsPruned(t *testing.T) {
	for _, list := range listsOfAuths() {
		for _, today := range []int{-1, 0, 9000, 9008, 9009, 9010, 9011, 9012, lastDay, lastDay + 1} {
			got := impl.AuthPrune(list, today)
			for _, a := range got[len(got):cap(got)] {
				if a != (impl.Auth{}) {
					t.Errorf("behind AuthPrune of %s on day %d stands %v", shortAuths(list), today, a)
				}
			}
		}
	}
}

func TestRefsOfWhatIsAddedAreNewMemory(t *testing.T) {
	a := withRef(anyAuth(1, 1000, 9000), strings.Repeat("new!", 3))
	for _, size := range []int{0, 1, 50, 99} {
		got, ok := impl.AuthAdd(manyAuths(size), a)
		if !ok || shares(got[size].Ref, a.Ref) {
			t.Errorf("added to %d it shares its ref", size)
		}
	}
	for _, one := range goodAuths() {
		if shares(impl.AuthText(one), one.Ref) {
			t.Errorf("the text of %v shares its ref", one)
		}
	}
}

func TestAuthsAreNotKept(t *testing.T) {
	list := authsOf(1000, 900)
	for _, want := range []int{0, 1, 0} {
		if got := impl.MatchBest(list, 1, 840, 1000, 9000); got != want {
			t.Errorf("of %v that at %d is found, want %d", list, got, want)
		}
		list[0], list[1] = list[1], list[0]
	}
	for range 3 {
		if got, ok := impl.AuthUse(list, 0); !ok || !got[0].Used {
			t.Error("that it was used in another list is kept")
		}
		if got, ok := impl.AuthAdd(list, anyAuth(9, 1, 1)); !ok || len(got) != 3 {
			t.Error("that it was added to another list is kept")
		}
	}
}

// authAnswers are the answers of every function, in one order.
func authAnswers() []string {
	var list []string
	for _, auths := range listsOfAuths() {
		for _, call := range authCalls(auths) {
			list = append(list, fmt.Sprint(call(auths)))
		}
		for _, day := range []int{-1, 9000, 9004, 9008} {
			list = append(list, strconv.Itoa(impl.MatchBest(auths, 1, 840, 1010, day)))
		}
		for _, a := range auths {
			list = append(list, strconv.FormatBool(impl.AuthOk(a)), strconv.Itoa(impl.MatchScore(a, 1, 840, 1010, 9004)), impl.AuthText(a))
		}
	}
	return list
}

func TestAuthsAnswerTheSame(t *testing.T) {
	first := authAnswers()
	for range 3 {
		if !slices.Equal(authAnswers(), first) {
			t.Fatal("asked again, another answer is given")
		}
	}
	same := make([]bool, 8)
	var all sync.WaitGroup
	for i := range same {
		all.Go(func() { same[i] = slices.Equal(authAnswers(), first) })
	}
	all.Wait()
	if slices.Contains(same, false) {
		t.Error("asked side by side, another answer is given")
	}
}
