package tests

import (
	"math/big"
	"slices"
	"strconv"
	"sync"
	"testing"

	"loop.example/g00126/impl"
)

const (
	mostPaid = 100000000000
	theHouse = 9999
	theFee   = 50000
	mostFees = 500000
)

var stateWords = []string{"open", "asked", "given", "charged", "answered", "second", "ruling", "closed"}

// statesOfActs has for each kind of act the states in which it may be done.
var statesOfActs = [][]int{{0}, {1}, {0, 1, 2}, {3}, {4}, {5}, {5}, {6}, {1, 3, 4, 5, 6}, {0, 2}}

func act(kind, amount, reason int) impl.Act {
	return impl.Act{Kind: kind, Amount: amount, Reason: reason}
}

func wantCaseOk(c impl.Case) bool {
	for _, acct := range []int{c.Issuer, c.Acquirer} {
		if !within(acct, 1, theHouse-1) {
			return false
		}
	}
	_, known := wantReason(c.Reason)
	unasked := c.Reason == 0 && slices.Contains([]int{0, 1, 2, 7}, c.State)
	return c.Issuer != c.Acquirer && isCurrency(c.Cur) && within(c.Amount, 1, mostPaid) && within(c.State, 0, 7) && (known || unasked) &&
		within(c.Claim, 0, c.Amount) && within(c.Back, 0, c.Amount) && within(c.Fees, 0, mostFees) && isDay(c.Start) && within(c.Due, -1, lastDay)
}

// countedDeadlines holds what was counted already without a day off, as many cases ask for the same.
var countedDeadlines sync.Map

func wantDue(day, days int, off []int) int {
	if len(off) > 0 {
		return wantDeadline(day, days, off)
	}
	if due, counted := countedDeadlines.Load([2]int{day, days}); counted {
		return due.(int)
	}
	due := wantDeadline(day, days, off)
	countedDeadlines.Store([2]int{day, days}, due)
	return due
}

// A scene is an act that is to be done, with all that it hangs on.
type scene struct {
	c     impl.Case
	a     impl.Act
	today int
	off   []int
}

func (s scene) late() bool { return wantLate(s.today, s.c.Due) }

func (s scene) noReason() bool {
	row, known := wantReason(s.a.Reason)
	waited := s.c.State == 1 && s.late()
	return !known || row.proof && !s.c.Copied && !waited
}

func (s scene) noChargeAmount() bool {
	row, _ := wantReason(s.a.Reason)
	return s.a.Amount != s.c.Amount && !(row.part && within(s.a.Amount, 1, s.c.Amount))
}

func (s scene) lateToCharge() bool {
	row, _ := wantReason(s.a.Reason)
	return wantLate(s.today, wantDue(s.c.Start, row.days, s.off))
}

func (s scene) noReply() bool { return !within(s.a.Amount, 1, s.c.Claim) }

func (s scene) noRuling() bool { return !within(s.a.Amount, 0, s.c.Claim) }

func (s scene) notRunOut() bool { return !s.late() }

// A refusal is a code and when it is answered.
type refusal struct {
	code  int
	holds func(scene) bool
}

// refusalsOfActs has for each kind of act its refusals, the one that counts first at the front.
var refusalsOfActs = [][]refusal{
	{},
	{{4, scene.late}},
	{{3, scene.noReason}, {2, scene.noChargeAmount}, {4, scene.lateToCharge}},
	{{4, scene.late}, {2, scene.noReply}},
	{{4, scene.late}, {2, scene.noReply}},
	{},
	{{4, scene.late}},
	{{2, scene.noRuling}},
	{{4, scene.notRunOut}},
	{},
}

// made is the case that comes out and what is moved: back to the issuer (below 0 to the acquirer), and to the house by the one who pays.
type made struct {
	c     impl.Case
	moved int
	payer int
}

func (s scene) next(state, days int) made {
	c := s.c
	c.State, c.Due = state, -1
	if days > 0 {
		c.Due = wantDue(s.today, days, s.off)
	}
	return made{c: c}
}

func (s scene) settled(moved int) made {
	m := s.next(7, 0)
	m.c.Claim, m.c.Back, m.moved = 0, s.c.Back+moved, moved
	return m
}

func (s scene) ruled(moved int) made {
	m := s.settled(moved)
	m.c.Fees += theFee
	// Of an odd claim the half is no whole number, and so never reached by what is less.
	if moved >= s.c.Claim-moved {
		m.payer = s.c.Acquirer
	} else {
		m.payer = s.c.Issuer
	}
	return m
}

func (s scene) ranOut() made {
	switch s.c.State {
	case 1:
		return s.given()
	case 5:
		return s.settled(s.c.Claim)
	case 6:
		return s.ruled((s.c.Claim - s.c.Claim%2) / 2)
	}
	return s.settled(0)
}

func (s scene) given() made {
	m := s.next(2, 0)
	m.c.Copied = true
	return m
}

// replied is a charge, an answer or a second asking: each has a claim of its own.
func (s scene) replied(state, days, back, moved int) made {
	m := s.next(state, days)
	m.c.Claim, m.c.Back, m.moved = s.a.Amount, back, moved
	return m
}

func (s scene) charged() made {
	m := s.replied(3, 30, s.a.Amount, s.a.Amount)
	m.c.Reason = s.a.Reason
	return m
}

func (s scene) makes() made {
	switch s.a.Kind {
	case 0:
		return s.next(1, 20)
	case 1:
		return s.given()
	case 2:
		return s.charged()
	case 3:
		return s.replied(4, 30, s.c.Back-s.a.Amount, -s.a.Amount)
	case 4:
		return s.replied(5, 15, s.c.Back, 0)
	case 5:
		return s.settled(s.c.Claim)
	case 6:
		return s.next(6, 60)
	case 7:
		return s.ruled(s.a.Amount)
	case 8:
		return s.ranOut()
	}
	return s.next(7, 0)
}

func (m made) entries() []impl.Entry {
	var list []impl.Entry
	if m.moved > 0 {
		list = append(list, entry(m.c.Acquirer, m.c.Issuer, m.c.Cur, m.moved))
	}
	if m.moved < 0 {
		list = append(list, entry(m.c.Issuer, m.c.Acquirer, m.c.Cur, -m.moved))
	}
	if m.payer != 0 {
		list = append(list, entry(m.payer, theHouse, m.c.Cur, theFee))
	}
	return list
}

func wantCaseDo(s scene) (impl.Case, []impl.Entry, int) {
	if !wantCaseOk(s.c) || !isDay(s.today) || s.today < s.c.Start || !isOffList(s.off) {
		return s.c, nil, 5
	}
	if !within(s.a.Kind, 0, 9) || !slices.Contains(statesOfActs[s.a.Kind], s.c.State) {
		return s.c, nil, 1
	}
	for _, r := range refusalsOfActs[s.a.Kind] {
		if r.holds(s) {
			return s.c, nil, r.code
		}
	}
	m := s.makes()
	if !wantCaseOk(m.c) {
		return s.c, nil, 1
	}
	return m.c, m.entries(), 0
}

// ask does the act, holds all that is answered against the second reckoning and against the promise, and answers it.
func (s scene) ask(t *testing.T) (impl.Case, []impl.Entry, int) {
	t.Helper()
	wantCase, wantList, wantCode := wantCaseDo(s)
	c, list, code := impl.CaseDo(s.c, s.a, s.today, s.off)
	if c != wantCase || !slices.Equal(list, wantList) || code != wantCode {
		t.Errorf("%v on day %d, %d days off, to %v:\n%v %v %d, want\n%v %v %d", s.a, s.today, len(s.off), s.c, c, list, code, wantCase, wantList, wantCode)
	}
	if code != 0 && (c != s.c || len(list) > 0) {
		t.Errorf("%v to %v is refused with %d, and it makes %v %v", s.a, s.c, code, c, list)
	}
	if code == 0 {
		s.askDone(t, c, list)
	}
	return c, list, code
}

// askDone holds an act that was done against what must be so whatever the act is.
func (s scene) askDone(t *testing.T, c impl.Case, list []impl.Entry) {
	t.Helper()
	if !impl.CaseOk(c) || s.c.State == 7 {
		t.Errorf("%v to %v makes %v", s.a, s.c, c)
	}
	if c.Issuer != s.c.Issuer || c.Acquirer != s.c.Acquirer || c.Cur != s.c.Cur || c.Amount != s.c.Amount || c.Start != s.c.Start || s.c.Copied && !c.Copied {
		t.Errorf("%v to %v changes what no act may: %v", s.a, s.c, c)
	}
	toIssuer, toHouse := 0, 0
	for _, e := range list {
		if !impl.EntryOk(e) || e.Cur != c.Cur {
			t.Errorf("%v to %v has the entry %v", s.a, s.c, e)
		}
		switch {
		case e.To == theHouse && (e.From == c.Issuer || e.From == c.Acquirer):
			toHouse += e.Amount
		case e.From == c.Acquirer && e.To == c.Issuer:
			toIssuer += e.Amount
		case e.From == c.Issuer && e.To == c.Acquirer:
			toIssuer -= e.Amount
		default:
			t.Errorf("%v to %v has the entry %v", s.a, s.c, e)
		}
	}
	before := s.c.Back
	if s.a.Kind == 2 {
		// A charge is the first that is given back, whatever stood there.
		before = 0
	}
	if toIssuer != c.Back-before || toHouse != c.Fees-s.c.Fees {
		t.Errorf("%v to %v moves %d back and %d to the house, and makes %v", s.a, s.c, toIssuer, toHouse, c)
	}
	if s.c.State >= 3 && c.Claim > s.c.Claim {
		t.Errorf("%v to %v lets the claim grow: %v", s.a, s.c, c)
	}
}

// anyCase is a case of 10000 that is paid on day 2, a Monday.
func anyCase(state, claim, back, due int) impl.Case {
	c := impl.Case{Issuer: 1, Acquirer: 4, Cur: 840, Amount: 10000, State: state, Claim: claim, Back: back, Start: 2, Due: due}
	if within(state, 3, 6) {
		c.Reason = 4853
	}
	return c
}

func copied(c impl.Case) impl.Case {
	c.Copied = true
	return c
}

func withFees(c impl.Case, fees int) impl.Case {
	c.Fees = fees
	return c
}

func withReason(c impl.Case, reason int) impl.Case {
	c.Reason = reason
	return c
}

func TestNumbersOfCases(t *testing.T) {
	states := []int{impl.CaseOpen, impl.CaseAsked, impl.CaseGiven, impl.CaseCharged, impl.CaseAnswered, impl.CaseSecond, impl.CaseRuling, impl.CaseClosed}
	kinds := []int{impl.ActAsk, impl.ActGive, impl.ActCharge, impl.ActAnswer, impl.ActSecond, impl.ActAccept, impl.ActRefuse, impl.ActRule, impl.ActExpire, impl.ActClose}
	codes := []int{impl.ActDone, impl.ActState, impl.ActAmount, impl.ActReason, impl.ActTime, impl.ActDay}
	for _, list := range [][]int{states, kinds, codes} {
		if !slices.Equal(list, daysFrom(0, 1, len(list))) {
			t.Error("they are numbered", list)
		}
	}
	if impl.House != theHouse || impl.RuleFee != theFee {
		t.Error("House is", impl.House, "and RuleFee is", impl.RuleFee)
	}
}

func TestStateText(t *testing.T) {
	for state, want := range stateWords {
		if got := impl.StateText(state); got != want {
			t.Errorf("StateText(%d) = %q, want %q", state, got, want)
		}
	}
	if impl.StateText(impl.CaseRuling) != "ruling" || impl.StateText(impl.CaseOpen) != "open" || impl.StateText(impl.CaseClosed) != "closed" {
		t.Error("a state is told by another's text")
	}
	for _, state := range slices.Concat(edgeInts, edgeDays, daysFrom(-300, 1, 700)) {
		want := ""
		if within(state, 0, 7) {
			want = stateWords[state]
		}
		if got := impl.StateText(state); got != want {
			t.Errorf("StateText(%d) = %q, want %q", state, got, want)
		}
	}
}

func TestCaseNet(t *testing.T) {
	cases := []struct{ amount, back, want int }{
		{10000, 0, 10000},
		{10000, 1, 9999},
		{10000, 9999, 1},
		{10000, 10000, 0},
		{1, 0, 1},
		{1, 1, 0},
		{mostPaid, 0, mostPaid},
		{mostPaid, mostPaid, 0},
		{mostPaid, 1, mostPaid - 1},
		{0, 0, 0},
		{5, 7, -2},
		{-5, 7, -12},
		{5, -7, 12},
	}
	for _, c := range cases {
		// Nothing but the two is asked: the case need not be one.
		for _, other := range []impl.Case{{}, anyCase(0, 0, 0, -1), withFees(anyCase(6, 77, 0, 30), theFee), {Issuer: -1, State: 9, Claim: 3, Fees: -8}} {
			other.Amount, other.Back = c.amount, c.back
			if got := impl.CaseNet(other); got != c.want {
				t.Errorf("CaseNet of %v = %d, want %d", other, got, c.want)
			}
		}
	}
	for _, amount := range edgeInts {
		for _, back := range edgeInts {
			got := impl.CaseNet(impl.Case{Amount: amount, Back: back})
			want := new(big.Int).Sub(big.NewInt(int64(amount)), big.NewInt(int64(back)))
			if want.IsInt64() && int(want.Int64()) != got {
				t.Errorf("CaseNet of %d and %d = %d, want %v", amount, back, got, want)
			}
		}
	}
}

// caseChanges are single changes of a case that is so, and whether it is still.
var caseChanges = []struct {
	what   string
	want   bool
	change func(*impl.Case)
}{
	{"nothing", true, func(c *impl.Case) {}},
	{"issuer 0", false, func(c *impl.Case) { c.Issuer = 0 }},
	{"issuer -1", false, func(c *impl.Case) { c.Issuer = -1 }},
	{"issuer 1", true, func(c *impl.Case) { c.Issuer = 1 }},
	{"issuer 9998", true, func(c *impl.Case) { c.Issuer = 9998 }},
	{"issuer House", false, func(c *impl.Case) { c.Issuer = impl.House }},
	{"issuer 10000", false, func(c *impl.Case) { c.Issuer = 10000 }},
	{"acquirer 0", false, func(c *impl.Case) { c.Acquirer = 0 }},
	{"acquirer 1", true, func(c *impl.Case) { c.Issuer, c.Acquirer = 2, 1 }},
	{"acquirer 9998", true, func(c *impl.Case) { c.Acquirer = 9998 }},
	{"acquirer House", false, func(c *impl.Case) { c.Acquirer = impl.House }},
	{"acquirer 10000", false, func(c *impl.Case) { c.Acquirer = 10000 }},
	{"the same twice", false, func(c *impl.Case) { c.Acquirer = c.Issuer }},
	{"the house twice", false, func(c *impl.Case) { c.Issuer, c.Acquirer = impl.House, impl.House }},
	{"no currency", false, func(c *impl.Case) { c.Cur = 841 }},
	{"currency 0", false, func(c *impl.Case) { c.Cur = 0 }},
	{"currency without digits", true, func(c *impl.Case) { c.Cur = 392 }},
	{"currency of three digits", true, func(c *impl.Case) { c.Cur = 48 }},
	{"amount 0", false, func(c *impl.Case) { c.Amount, c.Claim, c.Back = 0, 0, 0 }},
	{"amount -1", false, func(c *impl.Case) { c.Amount, c.Claim, c.Back = -1, 0, 0 }},
	{"amount 1", true, func(c *impl.Case) { c.Amount, c.Claim, c.Back = 1, 1, 1 }},
	{"the greatest amount", true, func(c *impl.Case) { c.Amount = impl.MaxMoney / 10 }},
	{"the greatest amount and 1", false, func(c *impl.Case) { c.Amount = impl.MaxMoney/10 + 1 }},
	{"the greatest money", false, func(c *impl.Case) { c.Amount = impl.MaxMoney }},
	{"state -1", false, func(c *impl.Case) { c.State = -1 }},
	{"state 8", false, func(c *impl.Case) { c.State = 8 }},
	{"claim -1", false, func(c *impl.Case) { c.Claim = -1 }},
	{"claim 0", true, func(c *impl.Case) { c.Claim = 0 }},
	{"claim of all", true, func(c *impl.Case) { c.Claim = c.Amount }},
	{"claim of more", false, func(c *impl.Case) { c.Claim = c.Amount + 1 }},
	{"back -1", false, func(c *impl.Case) { c.Back = -1 }},
	{"back 0", true, func(c *impl.Case) { c.Back = 0 }},
	{"back of all", true, func(c *impl.Case) { c.Back = c.Amount }},
	{"back of more", false, func(c *impl.Case) { c.Back = c.Amount + 1 }},
	{"claim and back of all", true, func(c *impl.Case) { c.Claim, c.Back = c.Amount, c.Amount }},
	{"fees -1", false, func(c *impl.Case) { c.Fees = -1 }},
	{"fees 1", true, func(c *impl.Case) { c.Fees = 1 }},
	{"fees of 10", true, func(c *impl.Case) { c.Fees = 10 * impl.RuleFee }},
	{"fees of 10 and 1", false, func(c *impl.Case) { c.Fees = 10*impl.RuleFee + 1 }},
	{"copied", true, func(c *impl.Case) { c.Copied = true }},
	{"start -1", false, func(c *impl.Case) { c.Start = -1 }},
	{"start 0", true, func(c *impl.Case) { c.Start = 0 }},
	{"start on the last day", true, func(c *impl.Case) { c.Start = impl.MaxDay }},
	{"start behind the last day", false, func(c *impl.Case) { c.Start = impl.MaxDay + 1 }},
	{"due -2", false, func(c *impl.Case) { c.Due = -2 }},
	{"due -1", true, func(c *impl.Case) { c.Due = -1 }},
	{"due 0", true, func(c *impl.Case) { c.Due = 0 }},
	{"due on the last day", true, func(c *impl.Case) { c.Due = impl.MaxDay }},
	{"due behind the last day", false, func(c *impl.Case) { c.Due = impl.MaxDay + 1 }},
	{"due ahead of the start", true, func(c *impl.Case) { c.Start, c.Due = 500, 3 }},
}

func TestCaseOkNamed(t *testing.T) {
	for state := range 8 {
		for _, x := range caseChanges {
			c := anyCase(state, 4000, 3000, 30)
			x.change(&c)
			if got := impl.CaseOk(c); got != x.want {
				t.Errorf("%s, %s: CaseOk of %v is %v", stateWords[state], x.what, c, got)
			}
		}
	}
	if impl.CaseOk(impl.Case{}) {
		t.Error("the zero value is taken")
	}
}

func TestCaseOkByTheReason(t *testing.T) {
	// A case that is open, asked, given or closed may be without a reason.
	for state, without := range []bool{true, true, true, false, false, false, false, true} {
		for _, row := range reasonRows {
			if !impl.CaseOk(withReason(anyCase(state, 5, 5, -1), row.code)) {
				t.Errorf("%s is refused with reason %d", stateWords[state], row.code)
			}
		}
		if got := impl.CaseOk(withReason(anyCase(state, 5, 5, -1), 0)); got != without {
			t.Errorf("%s without a reason: CaseOk is %v", stateWords[state], got)
		}
	}
	reasons := slices.Concat(edgeInts, daysFrom(4820, 1, 50), []int{-4837, 483, 48370, 1<<32 + 4837})
	for state := -2; state <= 10; state++ {
		for _, reason := range reasons {
			c := withReason(anyCase(state, 5, 5, -1), reason)
			if got, want := impl.CaseOk(c), wantCaseOk(c); got != want {
				t.Errorf("CaseOk of %v = %v", c, got)
			}
		}
	}
}

// caseFields are the fields of a case that are numbers, to change each to anything.
func caseFields(c *impl.Case) []*int {
	return []*int{&c.Issuer, &c.Acquirer, &c.Cur, &c.Amount, &c.State, &c.Reason, &c.Claim, &c.Back, &c.Fees, &c.Start, &c.Due}
}

var caseInts = slices.Concat(edgeInts, accountInts, currencyInts,
	[]int{4, 5, 6, 7, 8, 9, 10, 4831, 4837, 4840, 9999, 10000, 10001, mostFees - 1, mostFees, mostFees + 1, mostPaid - 1, mostPaid, mostPaid + 1, lastDay - 1, lastDay, lastDay + 1})

func TestCaseOkByTwoFields(t *testing.T) {
	for _, state := range []int{0, 4, 7} {
		for i := range 11 {
			for k := range i {
				for n, x := range caseInts {
					c := anyCase(state, 4000, 10000, 30)
					*caseFields(&c)[i] = x
					if got, want := impl.CaseOk(c), wantCaseOk(c); got != want {
						t.Errorf("CaseOk of %v = %v", c, got)
					}
					*caseFields(&c)[k] = caseInts[(n*7+i+state)%len(caseInts)]
					if got, want := impl.CaseOk(c), wantCaseOk(c); got != want {
						t.Errorf("CaseOk of %v = %v", c, got)
					}
				}
			}
		}
	}
}

func TestCaseOkAtTheAmount(t *testing.T) {
	for _, amount := range []int{-1, 0, 1, 2, 10000, mostPaid - 1, mostPaid, mostPaid + 1, 10 * mostPaid} {
		near := []int{-1, 0, 1, amount - 1, amount, amount + 1}
		for _, claim := range near {
			for _, back := range near {
				c := anyCase(3, claim, back, 30)
				c.Amount = amount
				if got, want := impl.CaseOk(c), wantCaseOk(c); got != want {
					t.Errorf("CaseOk of %v = %v", c, got)
				}
			}
		}
	}
}

func askCaseStart(t *testing.T, issuer, acquirer, cur, amount, day int) {
	t.Helper()
	want := impl.Case{Issuer: issuer, Acquirer: acquirer, Cur: cur, Amount: amount, Start: day, Due: -1}
	wantList := []impl.Entry{entry(issuer, acquirer, cur, amount)}
	wantOk := wantCaseOk(want)
	if !wantOk {
		want, wantList = impl.Case{}, nil
	}
	c, list, ok := impl.CaseStart(issuer, acquirer, cur, amount, day)
	if c != want || !slices.Equal(list, wantList) || ok != wantOk {
		t.Errorf("%s: %v %v %v", told("CaseStart", issuer, acquirer, cur, amount, day), c, list, ok)
	}
	if ok != impl.CaseOk(c) || ok && impl.CaseNet(c) != amount {
		t.Errorf("%s: CaseOk of %v is %v", told("CaseStart", issuer, acquirer, cur, amount, day), c, impl.CaseOk(c))
	}
}

func TestCaseStartNamed(t *testing.T) {
	c, list, ok := impl.CaseStart(1, 4, 840, 10000, 9000)
	if c != (impl.Case{Issuer: 1, Acquirer: 4, Cur: 840, Amount: 10000, State: 0, Reason: 0, Claim: 0, Back: 0, Fees: 0, Copied: false, Start: 9000, Due: -1}) {
		t.Error("it is", c)
	}
	if !ok || !slices.Equal(list, []impl.Entry{{From: 1, To: 4, Cur: 840, Amount: 10000}}) {
		t.Error("its entries are", list, ok)
	}
	good := [][5]int{
		{1, 2, 840, 1, 0}, {2, 1, 840, 1, 0}, {9998, 1, 392, 1, lastDay}, {1, 9998, 48, mostPaid, 2}, {5, 4, 978, mostPaid - 1, lastDay - 1},
	}
	bad := [][5]int{
		{0, 2, 840, 5, 2}, {1, 0, 840, 5, 2}, {2, 2, 840, 5, 2}, {theHouse, 2, 840, 5, 2}, {1, theHouse, 840, 5, 2}, {theHouse, theHouse, 840, 5, 2},
		{10000, 2, 840, 5, 2}, {1, 10000, 840, 5, 2}, {1, 2, 0, 5, 2}, {1, 2, 841, 5, 2}, {1, 2, 840, 0, 2}, {1, 2, 840, -1, 2},
		{1, 2, 840, mostPaid + 1, 2}, {1, 2, 840, most, 2}, {1, 2, 840, 5, -1}, {1, 2, 840, 5, lastDay + 1}, {0, 0, 0, 0, 0}, {-1, -1, -1, -1, -1},
	}
	for _, x := range good {
		if _, list, ok := impl.CaseStart(x[0], x[1], x[2], x[3], x[4]); !ok || len(list) != 1 {
			t.Errorf("%s: refused", told("CaseStart", x[:]...))
		}
	}
	for _, x := range bad {
		if c, list, ok := impl.CaseStart(x[0], x[1], x[2], x[3], x[4]); ok || c != (impl.Case{}) || len(list) > 0 {
			t.Errorf("%s: %v %v %v", told("CaseStart", x[:]...), c, list, ok)
		}
	}
}

func TestCaseStart(t *testing.T) {
	amounts := []int{leastOfInt, -1, 0, 1, 2, 10000, mostPaid - 1, mostPaid, mostPaid + 1, most, greatestInt}
	for _, issuer := range accountInts {
		for _, acquirer := range accountInts {
			for _, amount := range amounts {
				askCaseStart(t, issuer, acquirer, 840, amount, 9000)
			}
		}
	}
	for _, cur := range currencyInts {
		for _, day := range edgeDays {
			for _, amount := range amounts {
				askCaseStart(t, 1, 9998, cur, amount, day)
			}
		}
	}
}

// A deed is an act with what comes of it, by hand.
type deed struct {
	kind, amount, reason, today int
	code                        int
	want                        impl.Case
	entries                     []impl.Entry
}

// live does the deeds one behind the other.
func live(t *testing.T, c impl.Case, deeds []deed) impl.Case {
	t.Helper()
	for i, x := range deeds {
		got, list, code := impl.CaseDo(c, act(x.kind, x.amount, x.reason), x.today, nil)
		if code != x.code || !slices.Equal(list, x.entries) || code == 0 && got != x.want || code != 0 && got != c {
			t.Errorf("deed %d: %v %v %d, want %v %v %d", i, got, list, code, x.want, x.entries, x.code)
		}
		c = got
	}
	return c
}

// The deadlines are counted by hand: all days here are Mondays, and five working days are a week.
func TestWholeLifeByHand(t *testing.T) {
	back := func(amount int) []impl.Entry { return []impl.Entry{{From: 4, To: 1, Cur: 840, Amount: amount}} }
	life := func(state, reason, claim, back, fees, due int) impl.Case {
		return impl.Case{Issuer: 1, Acquirer: 4, Cur: 840, Amount: 10000, State: state, Reason: reason, Claim: claim, Back: back, Fees: fees, Copied: state > 1, Start: 2, Due: due}
	}
	c, _, _ := impl.CaseStart(1, 4, 840, 10000, 2)
	live(t, c, []deed{
		{impl.ActCharge, 10000, impl.ReasonFraud, 2, impl.ActReason, c, nil},
		{impl.ActAsk, 0, 0, 2, impl.ActDone, life(impl.CaseAsked, 0, 0, 0, 0, 30), nil},
		{impl.ActAsk, 0, 0, 9, impl.ActState, c, nil},
		{impl.ActCharge, 10000, impl.ReasonFraud, 30, impl.ActReason, c, nil},
		{impl.ActExpire, 0, 0, 30, impl.ActTime, c, nil},
		{impl.ActGive, 0, 0, 31, impl.ActTime, c, nil},
		{impl.ActGive, 0, 0, 30, impl.ActDone, life(impl.CaseGiven, 0, 0, 0, 0, -1), nil},
		{impl.ActCharge, 10000, impl.ReasonFraud, 122, impl.ActTime, c, nil},
		{impl.ActCharge, 9999, impl.ReasonFraud, 121, impl.ActAmount, c, nil},
		{impl.ActCharge, 10000, impl.ReasonFraud, 121, impl.ActDone, life(impl.CaseCharged, 4837, 10000, 10000, 0, 163), back(10000)},
		{impl.ActAnswer, 6000, 0, 164, impl.ActTime, c, nil},
		{impl.ActAnswer, 10001, 0, 163, impl.ActAmount, c, nil},
		{impl.ActAnswer, 6000, 0, 163, impl.ActDone, life(impl.CaseAnswered, 4837, 6000, 4000, 0, 205), []impl.Entry{{From: 1, To: 4, Cur: 840, Amount: 6000}}},
		{impl.ActSecond, 5001, 0, 206, impl.ActTime, c, nil},
		{impl.ActSecond, 6001, 0, 205, impl.ActAmount, c, nil},
		{impl.ActSecond, 5001, 0, 205, impl.ActDone, life(impl.CaseSecond, 4837, 5001, 4000, 0, 226), nil},
		{impl.ActRefuse, 0, 0, 227, impl.ActTime, c, nil},
		{impl.ActRefuse, 0, 0, 226, impl.ActDone, life(impl.CaseRuling, 4837, 5001, 4000, 0, 310), nil},
		{impl.ActRule, 5002, 0, 310, impl.ActAmount, c, nil},
		{impl.ActRule, 2500, 0, 5000, impl.ActDone, life(impl.CaseClosed, 4837, 0, 6500, 50000, -1),
			[]impl.Entry{{From: 4, To: 1, Cur: 840, Amount: 2500}, {From: 1, To: 9999, Cur: 840, Amount: 50000}}},
		{impl.ActRule, 0, 0, 5000, impl.ActState, c, nil},
		{impl.ActExpire, 0, 0, 5000, impl.ActState, c, nil},
		{impl.ActClose, 0, 0, 5000, impl.ActState, c, nil},
	})
}

func TestWaysToTheEndByHand(t *testing.T) {
	back := func(amount int) []impl.Entry { return []impl.Entry{{From: 4, To: 1, Cur: 840, Amount: amount}} }
	fee := func(payer int) impl.Entry { return impl.Entry{From: payer, To: 9999, Cur: 840, Amount: 50000} }
	closed := func(reason, back, fees int) impl.Case {
		return impl.Case{Issuer: 1, Acquirer: 4, Cur: 840, Amount: 10000, State: 7, Reason: reason, Back: back, Fees: fees, Start: 2, Due: -1}
	}
	cases := []struct {
		what string
		c    impl.Case
		deed deed
	}{
		{"closed at once", anyCase(0, 0, 0, -1), deed{9, 0, 0, 2, 0, closed(0, 0, 0), nil}},
		{"closed with its copy", copied(anyCase(2, 0, 0, -1)), deed{9, 0, 0, 40, 0, copied(closed(0, 0, 0)), nil}},
		{"not answered", anyCase(3, 7000, 7000, 44), deed{8, 0, 0, 45, 0, closed(4853, 7000, 0), nil}},
		{"not asked again", anyCase(4, 7000, 3000, 44), deed{8, 0, 0, 45, 0, closed(4853, 3000, 0), nil}},
		{"accepted", anyCase(5, 7000, 3000, 44), deed{5, 0, 0, 44, 0, closed(4853, 10000, 0), back(7000)}},
		{"accepted late", anyCase(5, 7000, 3000, 44), deed{5, 0, 0, 9000, 0, closed(4853, 10000, 0), back(7000)}},
		{"not refused", anyCase(5, 7000, 3000, 44), deed{8, 0, 0, 45, 0, closed(4853, 10000, 0), back(7000)}},
		{"ruled for all", anyCase(6, 7000, 3000, 44), deed{7, 7000, 0, 44, 0, closed(4853, 10000, theFee), append(back(7000), fee(4))}},
		{"ruled for half", anyCase(6, 7000, 3000, 44), deed{7, 3500, 0, 44, 0, closed(4853, 6500, theFee), append(back(3500), fee(4))}},
		{"ruled for less than half", anyCase(6, 7000, 3000, 44), deed{7, 3499, 0, 44, 0, closed(4853, 6499, theFee), append(back(3499), fee(1))}},
		{"ruled for nothing", anyCase(6, 7000, 3000, 44), deed{7, 0, 0, 44, 0, closed(4853, 3000, theFee), []impl.Entry{fee(1)}}},
		{"ruled for 1 of 1", anyCase(6, 1, 3000, 44), deed{7, 1, 0, 44, 0, closed(4853, 3001, theFee), append(back(1), fee(4))}},
		{"ruled for 0 of 1", anyCase(6, 1, 3000, 44), deed{7, 0, 0, 44, 0, closed(4853, 3000, theFee), []impl.Entry{fee(1)}}},
		{"ruled for 1 of 2", anyCase(6, 2, 3000, 44), deed{7, 1, 0, 44, 0, closed(4853, 3001, theFee), append(back(1), fee(4))}},
		{"ruled for 1 of 3", anyCase(6, 3, 3000, 44), deed{7, 1, 0, 44, 0, closed(4853, 3001, theFee), append(back(1), fee(1))}},
		{"ruled for 2 of 3", anyCase(6, 3, 3000, 44), deed{7, 2, 0, 44, 0, closed(4853, 3002, theFee), append(back(2), fee(4))}},
		{"not ruled, even", anyCase(6, 7000, 3000, 44), deed{8, 0, 0, 45, 0, closed(4853, 6500, theFee), append(back(3500), fee(4))}},
		{"not ruled, odd", anyCase(6, 6999, 3000, 44), deed{8, 0, 0, 45, 0, closed(4853, 6499, theFee), append(back(3499), fee(1))}},
		{"not ruled, 1", anyCase(6, 1, 3000, 44), deed{8, 0, 0, 45, 0, closed(4853, 3000, theFee), []impl.Entry{fee(1)}}},
		{"not ruled, 0", anyCase(6, 0, 3000, 44), deed{8, 0, 0, 45, 0, closed(4853, 3000, theFee), []impl.Entry{fee(4)}}},
		{"ruled for 0 of 0", anyCase(6, 0, 3000, 44), deed{7, 0, 0, 44, 0, closed(4853, 3000, theFee), []impl.Entry{fee(4)}}},
		{"the amount of one that ran out is not asked", anyCase(6, 7000, 3000, 44), deed{8, 99999, -7, 45, 0, closed(4853, 6500, theFee), append(back(3500), fee(4))}},
	}
	for _, x := range cases {
		if end := live(t, x.c, []deed{x.deed}); end.State != 7 || t.Failed() {
			t.Fatal(x.what)
		}
	}
}

// askCodesByHand is given a line for each state and a letter for each kind of act: Done, State, Time.
func askCodesByHand(t *testing.T, what string, today int, codesByHand []string) {
	t.Helper()
	for state, letters := range codesByHand {
		for kind, letter := range letters {
			want := map[rune]int{'D': 0, 'S': 1, 'T': 4}[letter]
			c := anyCase(state, 7000, 3000, 44)
			a := act(kind, 3000, 4853)
			if got, _, code := impl.CaseDo(c, a, today, nil); code != want || want != 0 && got != c {
				t.Errorf("%s: act %d in %s: %d, want %d", what, kind, stateWords[state], code, want)
			}
		}
	}
}

func TestEachActInEachState(t *testing.T) {
	askCodesByHand(t, "on the last day", 44, []string{
		"DSDSSSSSSD",
		"SDDSSSSSTS",
		"SSDSSSSSSD",
		"SSSDSSSSTS",
		"SSSSDSSSTS",
		"SSSSSDDSTS",
		"SSSSSSSDTS",
		"SSSSSSSSSS",
	})
	askCodesByHand(t, "behind the last day", 45, []string{
		"DSDSSSSSSD",
		"STDSSSSSDS",
		"SSDSSSSSSD",
		"SSSTSSSSDS",
		"SSSSTSSSDS",
		"SSSSSDTSDS",
		"SSSSSSSDDS",
		"SSSSSSSSSS",
	})
}

func TestNoSuchAct(t *testing.T) {
	for state := range 8 {
		for _, kind := range slices.Concat([]int{-1, 10, 11, -10, 256, 1 << 32, 1<<32 + 5, leastOfInt, greatestInt}, edgeInts) {
			if within(kind, 0, 9) {
				continue
			}
			for _, today := range []int{2, 44, 45, lastDay} {
				c := anyCase(state, 7000, 3000, 44)
				if got, list, code := impl.CaseDo(c, act(kind, 3000, 4853), today, nil); code != impl.ActState || got != c || len(list) > 0 {
					t.Errorf("act %d in %s: %v %v %d", kind, stateWords[state], got, list, code)
				}
			}
		}
	}
}

func TestNothingIsDoneToAClosedCase(t *testing.T) {
	for _, c := range []impl.Case{anyCase(7, 0, 0, -1), anyCase(7, 7000, 3000, 44), copied(withFees(withReason(anyCase(7, 10000, 0, 2), 4837), theFee))} {
		for kind := -1; kind <= 10; kind++ {
			for _, amount := range []int{-1, 0, 1, 3500, 7000, 10000, 10001} {
				for _, today := range []int{2, 3, 44, 45, 9000, lastDay} {
					s := scene{c, act(kind, amount, 4853), today, nil}
					if _, _, code := s.ask(t); code != impl.ActState {
						t.Errorf("%v on day %d to %v: %d", s.a, today, c, code)
					}
				}
			}
		}
	}
}

// someOffLists are lists that move the deadlines of cases that begin near day 2, near day 9000 and near the last day.
func someOffLists() [][]int {
	return [][]int{
		nil,
		{},
		{30, 44, 65, 72, 93, 121},
		{9001, 9028, 9040, 9042},
		daysFrom(3, 7, 400),
		workDaysFrom(9000, 20),
		{lastDay - 100, lastDay - 20, lastDay},
	}
}

// timedActs are the acts that have a last day, each in its state.
var timedActs = []struct{ state, kind int }{{1, 1}, {3, 3}, {4, 4}, {5, 6}}

func TestAnswersAreTakenUntilTheLastDay(t *testing.T) {
	for _, x := range timedActs {
		for _, due := range []int{2, 3, 30, 44, 9000, lastDay - 2, lastDay - 1, lastDay} {
			for _, today := range []int{2, due - 1, due, due + 1, due + 2, lastDay} {
				if today < 2 || today > lastDay {
					continue
				}
				c := anyCase(x.state, 7000, 7000, due)
				if _, _, code := (scene{c, act(x.kind, 7000, 0), today, nil}).ask(t); (code == impl.ActTime) != (today > due) || today <= due && code != impl.ActDone {
					t.Errorf("act %d on day %d, due on %d: %d", x.kind, today, due, code)
				}
			}
		}
		// Where no day is the last one, none is too late.
		for _, today := range []int{2, 44, 9000, lastDay} {
			if _, _, code := (scene{anyCase(x.state, 7000, 7000, -1), act(x.kind, 7000, 0), today, nil}).ask(t); code != impl.ActDone {
				t.Errorf("act %d on day %d, due on none: %d", x.kind, today, code)
			}
		}
	}
}

func TestWhatRanOutIsTakenBehindTheLastDay(t *testing.T) {
	for _, state := range []int{1, 3, 4, 5, 6} {
		for _, due := range []int{2, 3, 30, 44, 9000, lastDay - 1, lastDay} {
			for _, today := range []int{2, due - 1, due, due + 1, due + 2, lastDay} {
				if today < 2 || today > lastDay {
					continue
				}
				want := impl.ActTime
				if today > due {
					want = impl.ActDone
				}
				if _, _, code := (scene{anyCase(state, 3000, 7000, due), act(8, 0, 0), today, nil}).ask(t); code != want {
					t.Errorf("%s ran out on day %d, due on %d: %d, want %d", stateWords[state], today, due, code, want)
				}
			}
		}
		for _, today := range []int{2, 44, lastDay} {
			if _, _, code := (scene{anyCase(state, 3000, 7000, -1), act(8, 0, 0), today, nil}).ask(t); code != impl.ActTime {
				t.Errorf("%s ran out on day %d, due on none: %d", stateWords[state], today, code)
			}
		}
	}
}

// Accepting and ruling have no last day: they may be done until the other side says that it ran out.
func TestActsWithoutALastDay(t *testing.T) {
	for _, x := range []struct{ state, kind int }{{5, 5}, {6, 7}, {0, 0}, {0, 9}, {2, 9}} {
		for _, due := range []int{-1, 0, 2, 44} {
			for _, today := range []int{2, 3, 44, 45, lastDay} {
				if _, _, code := (scene{anyCase(x.state, 3000, 7000, due), act(x.kind, 3000, 0), today, nil}).ask(t); code != impl.ActDone {
					t.Errorf("act %d in %s on day %d, due on %d: %d", x.kind, stateWords[x.state], today, due, code)
				}
			}
		}
	}
}

// The last day to charge is counted from the day of the payment on, whatever is due.
func TestChargesAreTakenUntilTheLastDay(t *testing.T) {
	for _, off := range someOffLists() {
		for _, start := range []int{0, 2, 6, 9000, lastDay - 200, lastDay - 119, lastDay - 118, lastDay - 60, lastDay - 1, lastDay} {
			for _, row := range reasonRows {
				last := wantDeadline(start, row.days, off)
				for _, today := range []int{start, start + 1, last - 1, last, last + 1, last + 2, lastDay} {
					if today < start || today > lastDay {
						continue
					}
					for state := range 3 {
						c := copied(anyCase(state, 0, 0, []int{-1, 0, lastDay}[state]))
						c.Start = start
						_, _, code := (scene{c, act(2, 10000, row.code), today, off}).ask(t)
						if inTime := last == -1 || today <= last; inTime != (code == impl.ActDone) || inTime == (code == impl.ActTime) {
							t.Errorf("charged for %s on day %d, paid on %d, last on %d: %d", row.text, today, start, last, code)
						}
					}
				}
			}
		}
	}
}

// newDues are the acts that have a new last day, with the working days that it is away.
var newDues = []struct{ state, kind, days int }{{0, 0, 20}, {0, 2, 30}, {1, 2, 30}, {2, 2, 30}, {3, 3, 30}, {4, 4, 15}, {5, 6, 60}}

func TestNewLastDays(t *testing.T) {
	for _, off := range someOffLists() {
		for _, x := range newDues {
			for _, today := range slices.Concat(daysFrom(2, 1, 9), daysFrom(9000, 1, 8), daysFrom(lastDay-90, 1, 91)) {
				c := anyCase(x.state, 5000, 10000, -1)
				c.Start = today
				got, _, code := (scene{c, act(x.kind, 5000, 4831), today, off}).ask(t)
				due := wantDeadline(today, x.days, off)
				if code != impl.ActDone || got.Due != due {
					t.Errorf("act %d in %s on day %d: %d, due on %d, want %d", x.kind, stateWords[x.state], today, code, got.Due, due)
				}
				if between := impl.WorkBetween(today, got.Due, off); got.Due != -1 && between != x.days {
					t.Errorf("act %d on day %d is due in %d working days", x.kind, today, between)
				}
			}
		}
	}
}

// On the last day that there is, a new last day is none, and what follows is never late.
func TestLifeOnTheLastDay(t *testing.T) {
	c, _, ok := impl.CaseStart(3, 2, 392, 9, lastDay)
	if !ok {
		t.Fatal("not begun on the last day")
	}
	for _, a := range []impl.Act{act(0, 0, 0), act(1, 0, 0), act(2, 9, 4837), act(3, 8, 0), act(4, 7, 0), act(6, 0, 0), act(7, 3, 0)} {
		if ran, _, code := (scene{c, act(8, 0, 0), lastDay, nil}).ask(t); code == impl.ActDone {
			t.Errorf("it ran out on the last day: %v", ran)
		}
		next, _, code := (scene{c, a, lastDay, nil}).ask(t)
		if code != impl.ActDone || next.Due != -1 {
			t.Fatalf("%v to %v: %d, %v", a, c, code, next)
		}
		c = next
	}
	if c.State != 7 || c.Back != 4 || c.Fees != theFee || !c.Copied {
		t.Error("it ends as", c)
	}
}

func TestChargeByTheReason(t *testing.T) {
	for _, row := range reasonRows {
		for state := range 3 {
			for _, has := range []bool{false, true} {
				for _, today := range []int{2, 30, 31} {
					for _, amount := range []int{-1, 0, 1, 5000, 9999, 10000, 10001} {
						c := anyCase(state, 0, 0, []int{-1, 30, -1}[state])
						c.Copied = has
						want := impl.ActDone
						// Without the copy, only one that was asked for and did not come in time will do.
						if row.proof && !has && !(state == 1 && today == 31) {
							want = impl.ActReason
						} else if amount < 1 || amount > 10000 || amount < 10000 && row.code != impl.ReasonAmount && row.code != impl.ReasonQuality {
							want = impl.ActAmount
						}
						got, list, code := (scene{c, act(2, amount, row.code), today, nil}).ask(t)
						if code != want {
							t.Errorf("%s, copied %v: charged %d for %s on day %d: %d, want %d", stateWords[state], has, amount, row.text, today, code, want)
						}
						if code == 0 && (got.State != 3 || got.Reason != row.code || got.Claim != amount || got.Back != amount || got.Copied != has || list[0] != entry(4, 1, 840, amount)) {
							t.Errorf("charged %d for %s: %v %v", amount, row.text, got, list)
						}
					}
				}
			}
		}
	}
}

func TestChargeForNoReason(t *testing.T) {
	for state := range 3 {
		for _, reason := range []int{-1, 0, 1, 4830, 4832, 4836, 4838, 48370, -4837, leastOfInt, greatestInt} {
			for _, amount := range []int{0, 1, 10000, 10001} {
				// A reason that the case has already is not the act's.
				c := copied(withReason(anyCase(state, 0, 0, 30), 4837))
				if got, list, code := impl.CaseDo(c, act(2, amount, reason), 31, nil); code != impl.ActReason || got != c || len(list) > 0 {
					t.Errorf("%s: charged %d for %d: %v %v %d", stateWords[state], amount, reason, got, list, code)
				}
			}
		}
	}
}

// Late of Due counts in place of a copy where one was asked for alone.
func TestProofOfAStateThatWaitsForNothing(t *testing.T) {
	for _, state := range []int{0, 2} {
		c := anyCase(state, 0, 0, 30)
		if _, _, code := (scene{c, act(2, 10000, 4834), 31, nil}).ask(t); code != impl.ActReason {
			t.Errorf("%s: charged without a copy: %d", stateWords[state], code)
		}
	}
	if _, _, code := (scene{anyCase(1, 0, 0, -1), act(2, 10000, 4834), lastDay, nil}).ask(t); code != impl.ActReason {
		t.Errorf("asked, and due on no day: charged without a copy: %d", code)
	}
}

// For each of these acts several refusals hold.
func TestFirstRefusalCounts(t *testing.T) {
	broken := anyCase(3, 7000, 10001, 44)
	cases := []struct {
		what  string
		s     scene
		wants int
	}{
		{"no case, no act", scene{broken, act(10, 0, 0), 44, nil}, impl.ActDay},
		{"no case, not of its state", scene{broken, act(0, 0, 0), 44, nil}, impl.ActDay},
		{"no case, late", scene{broken, act(3, 0, 0), 45, nil}, impl.ActDay},
		{"no day, no act", scene{anyCase(3, 7000, 3000, 44), act(-1, 0, 0), -1, nil}, impl.ActDay},
		{"no day, late", scene{anyCase(3, 7000, 3000, 44), act(3, 0, 0), lastDay + 1, nil}, impl.ActDay},
		{"ahead of the start, not of its state", scene{anyCase(7, 0, 0, -1), act(3, 0, 0), 1, nil}, impl.ActDay},
		{"ahead of the start, no amount", scene{anyCase(3, 7000, 3000, 44), act(3, 0, 0), 1, nil}, impl.ActDay},
		{"no list, not of its state", scene{anyCase(7, 0, 0, -1), act(3, 0, 0), 44, []int{5, 4}}, impl.ActDay},
		{"no list, which is not needed", scene{anyCase(0, 0, 0, -1), act(9, 0, 0), 44, []int{5, 5}}, impl.ActDay},
		{"not of its state, no amount and late", scene{anyCase(4, 7000, 3000, 44), act(3, 0, 0), 45, nil}, impl.ActState},
		{"not of its state, no reason", scene{anyCase(3, 7000, 3000, 44), act(2, 0, 0), 9000, nil}, impl.ActState},
		{"not of its state, and not run out", scene{anyCase(2, 0, 0, 44), act(8, 0, 0), 44, nil}, impl.ActState},
		{"no reason, no amount, late", scene{anyCase(0, 0, 0, -1), act(2, 0, 0), 9000, nil}, impl.ActReason},
		{"no proof, no amount, late", scene{anyCase(0, 0, 0, -1), act(2, 0, 4837), 9000, nil}, impl.ActReason},
		{"no proof, a part", scene{anyCase(2, 0, 0, -1), act(2, 5000, 4834), 44, nil}, impl.ActReason},
		{"no amount, late", scene{copied(anyCase(2, 0, 0, -1)), act(2, 0, 4837), 9000, nil}, impl.ActAmount},
		{"too much, late", scene{anyCase(0, 0, 0, -1), act(2, 10001, 4831), 9000, nil}, impl.ActAmount},
		{"a part, late", scene{anyCase(0, 0, 0, -1), act(2, 9999, 4855), 9000, nil}, impl.ActAmount},
		{"a copy, late", scene{copied(anyCase(1, 0, 0, 30)), act(1, 0, 0), 31, nil}, impl.ActTime},
		{"an answer of nothing, late", scene{anyCase(3, 7000, 7000, 44), act(3, 0, 0), 45, nil}, impl.ActTime},
		{"an answer of too much, late", scene{anyCase(3, 7000, 7000, 44), act(3, 7001, 0), 45, nil}, impl.ActTime},
		{"an answer of what is not there, late", scene{anyCase(3, 7000, 5, 44), act(3, 7000, 0), 45, nil}, impl.ActTime},
		{"an answer of too much that is not there", scene{anyCase(3, 7000, 5, 44), act(3, 7001, 0), 44, nil}, impl.ActAmount},
		{"an answer of what is not there", scene{anyCase(3, 7000, 5, 44), act(3, 6, 0), 44, nil}, impl.ActState},
		{"asked again for nothing, late", scene{anyCase(4, 7000, 3000, 44), act(4, 0, 0), 45, nil}, impl.ActTime},
		{"asked again for too much, late", scene{anyCase(4, 7000, 3000, 44), act(4, 7001, 0), 45, nil}, impl.ActTime},
		{"ruled for too much, and fees too many", scene{withFees(anyCase(6, 7000, 3000, 44), mostFees), act(7, 7001, 0), 44, nil}, impl.ActAmount},
		{"ruled for less than nothing, and fees too many", scene{withFees(anyCase(6, 7000, 3000, 44), mostFees), act(7, -1, 0), 44, nil}, impl.ActAmount},
		{"not run out, and fees too many", scene{withFees(anyCase(6, 7000, 3000, 44), mostFees), act(8, 0, 0), 44, nil}, impl.ActTime},
		{"run out, and fees too many", scene{withFees(anyCase(6, 7000, 3000, 44), mostFees), act(8, 0, 0), 45, nil}, impl.ActState},
		{"not run out, and too much back", scene{anyCase(5, 7000, 3001, 44), act(8, 0, 0), 44, nil}, impl.ActTime},
		{"run out, and too much back", scene{anyCase(5, 7000, 3001, 44), act(8, 0, 0), 45, nil}, impl.ActState},
	}
	for _, x := range cases {
		if _, _, code := x.s.ask(t); code != x.wants {
			t.Errorf("%s: %d, want %d", x.what, code, x.wants)
		}
	}
}

func TestAmountsOfReplies(t *testing.T) {
	for _, x := range []struct{ state, kind, least int }{{3, 3, 1}, {4, 4, 1}, {6, 7, 0}} {
		for _, claim := range []int{0, 1, 2, 5, 4999, 5000} {
			for _, amount := range []int{leastOfInt, -1, 0, 1, 2, claim - 1, claim, claim + 1, 10000, 10001, greatestInt} {
				c := anyCase(x.state, claim, 5000, 44)
				got, _, code := (scene{c, act(x.kind, amount, 0), 44, nil}).ask(t)
				if taken := within(amount, x.least, claim); taken != (code == impl.ActDone) || taken == (code == impl.ActAmount) {
					t.Errorf("act %d of %d, claimed %d: %d", x.kind, amount, claim, code)
				}
				if code == 0 && x.kind != 7 && got.Claim != amount {
					t.Errorf("act %d of %d, claimed %d: %v", x.kind, amount, claim, got)
				}
			}
		}
	}
}

func TestAmountsOfAllSizes(t *testing.T) {
	for _, amount := range []int{1, 2, 3, 10000, mostPaid - 1, mostPaid} {
		c, _, _ := impl.CaseStart(9998, 1, 414, amount, 2)
		c, _, _ = (scene{c, act(2, amount, 4831), 2, nil}).ask(t)
		c, _, _ = (scene{c, act(3, amount, 0), 2, nil}).ask(t)
		c, _, _ = (scene{c, act(4, amount, 0), 2, nil}).ask(t)
		if c.State != 5 || c.Back != 0 || c.Claim != amount {
			t.Errorf("of %d: %v", amount, c)
		}
		if got, _, code := (scene{c, act(5, 0, 0), 2, nil}).ask(t); code != 0 || got.Back != amount || impl.CaseNet(got) != 0 {
			t.Errorf("accepted of %d: %v %d", amount, got, code)
		}
		c, _, _ = (scene{c, act(6, 0, 0), 2, nil}).ask(t)
		for _, ruled := range []int{0, 1, amount / 2, (amount + 1) / 2, amount/2 - 1, amount/2 + 1, amount - 1, amount, amount + 1} {
			got, list, code := (scene{c, act(7, ruled, 0), 2, nil}).ask(t)
			if within(ruled, 0, amount) != (code == 0) {
				t.Errorf("ruled for %d of %d: %d", ruled, amount, code)
			}
			if code != 0 {
				continue
			}
			payer := 9998
			if ruled >= amount-ruled {
				payer = 1
			}
			if got.Back != ruled || got.Fees != theFee || list[len(list)-1] != entry(payer, theHouse, 414, theFee) || len(list) != min(ruled, 1)+1 {
				t.Errorf("ruled for %d of %d: %v %v", ruled, amount, got, list)
			}
		}
	}
}

// What would come out must be a case still: no more fees than ten, and no more back than was paid.
func TestWhatWouldComeOutIsNoCase(t *testing.T) {
	for fees, want := range map[int]int{
		0: 0, 1: 0, theFee: 0, 8 * theFee: 0, 9*theFee - 1: 0, 9 * theFee: 0, 9*theFee + 1: 1, mostFees - 1: 1, mostFees: 1,
	} {
		c := withFees(anyCase(6, 7000, 3000, 44), fees)
		for _, s := range []scene{{c, act(7, 0, 0), 44, nil}, {c, act(7, 7000, 0), 44, nil}, {c, act(8, 0, 0), 45, nil}} {
			if got, _, code := s.ask(t); code != want || code == 0 && got.Fees != fees+theFee {
				t.Errorf("%v with fees of %d: %d, want %d; %v", s.a, fees, code, want, got)
			}
		}
		// The others do not add to the fees.
		for _, x := range []struct{ state, kind int }{{0, 0}, {0, 9}, {1, 1}, {2, 9}, {3, 3}, {4, 4}, {5, 5}, {5, 6}, {0, 2}} {
			if got, _, code := (scene{withFees(anyCase(x.state, 3000, 7000, 44), fees), act(x.kind, 3000, 4831), 44, nil}).ask(t); code != 0 || got.Fees != fees {
				t.Errorf("act %d with fees of %d: %d, %v", x.kind, fees, code, got)
			}
		}
	}
	for back, want := range map[int]int{0: 0, 1: 0, 2999: 0, 3000: 0, 3001: 1, 9999: 1, 10000: 1} {
		for _, s := range []scene{
			{anyCase(5, 7000, back, 44), act(5, 0, 0), 44, nil},
			{anyCase(5, 7000, back, 44), act(8, 0, 0), 45, nil},
			{anyCase(6, 8000, back, 44), act(7, 7000, 0), 44, nil},
			{anyCase(6, 10000, back, 44), act(7, 7000, 0), 44, nil},
			{anyCase(3, 10000, 10000-back, 44), act(3, 7000, 0), 44, nil},
		} {
			if _, _, code := s.ask(t); code != want {
				t.Errorf("%v to %v: %d, want %d", s.a, s.c, code, want)
			}
		}
	}
}

// A life is a case that acts led to from its start, with what was told of it on the way.
type life struct {
	c       impl.Case
	books   impl.Ledger
	claim   int
	rulings int
	paid    map[int]int
}

func newLife(t *testing.T, issuer, acquirer, cur, amount, day int) life {
	t.Helper()
	c, list, ok := impl.CaseStart(issuer, acquirer, cur, amount, day)
	books, posted := impl.PostAll(impl.Ledger{}, list)
	if !ok || !posted {
		t.Fatal("not begun:", told("CaseStart", issuer, acquirer, cur, amount, day))
	}
	return life{c: c, books: books, claim: amount, paid: map[int]int{}}
}

// do answers the life behind an act, held against the promise, and whether the act was done.
func (l life) do(t *testing.T, a impl.Act, today int, off []int) (life, bool) {
	t.Helper()
	c, list, code := scene{l.c, a, today, off}.ask(t)
	if code != impl.ActDone {
		return l, false
	}
	books, posted := impl.PostAll(l.books, list)
	next := life{c, books, l.claim, l.rulings, map[int]int{}}
	for payer, sum := range l.paid {
		next.paid[payer] = sum
	}
	for _, e := range list {
		if e.To == theHouse {
			next.rulings++
			next.paid[e.From] += e.Amount
		}
	}
	if c.State >= 3 {
		next.claim = c.Claim
	}
	next.askPromise(t, l, posted)
	return next, true
}

func (l life) askPromise(t *testing.T, before life, posted bool) {
	t.Helper()
	c := l.c
	if !posted || !within(c.Back, 0, c.Amount) || l.claim > before.claim || l.rulings > 1 || c.Fees != l.rulings*theFee || before.c.State == 7 {
		t.Errorf("%v becomes %v with %d rulings", before.c, c, l.rulings)
	}
	issuer, acquirer := impl.BalanceOf(l.books, c.Issuer, c.Cur), impl.BalanceOf(l.books, c.Acquirer, c.Cur)
	if issuer != -impl.CaseNet(c)-l.paid[c.Issuer] || acquirer != impl.CaseNet(c)-l.paid[c.Acquirer] || impl.BalanceOf(l.books, theHouse, c.Cur) != c.Fees {
		t.Errorf("the books of %v are %s", c, impl.LedgerText(l.books))
	}
	if c.State == 7 && (c.Claim != 0 || c.Due != -1) {
		t.Errorf("closed as %v", c)
	}
}

// actsNear are acts with amounts at all bounds that a case has.
func actsNear(c impl.Case) []impl.Act {
	list := []impl.Act{act(0, 0, 0), act(1, 0, 0), act(5, 0, 0), act(6, 0, 0), act(8, 0, 0), act(9, 0, 0), act(-1, 0, 0), act(10, 0, 0)}
	amounts := []int{-1, 0, 1, c.Claim / 2, c.Claim/2 + 1, c.Claim - 1, c.Claim, c.Claim + 1, c.Amount, c.Amount + 1}
	slices.Sort(amounts)
	for _, amount := range slices.Compact(amounts) {
		for _, kind := range []int{3, 4, 7} {
			list = append(list, act(kind, amount, 0))
		}
		for _, reason := range []int{4837, 4831, 4855} {
			list = append(list, act(2, amount, reason))
		}
	}
	return list
}

// liveOn goes on with every act on every day that matters, and answers how many lives came to their end.
func liveOn(t *testing.T, l life, today int) int {
	t.Helper()
	days := []int{today}
	if l.c.Due >= 0 {
		days = append(days, l.c.Due, l.c.Due+1)
	}
	ends := 0
	for _, day := range days {
		for _, a := range actsNear(l.c) {
			next, done := l.do(t, a, day, nil)
			switch {
			case done && next.c.State == 7:
				ends++
				askOver(t, next.c, day)
			case done:
				ends += liveOn(t, next, day)
			}
			if t.Failed() {
				return ends
			}
		}
	}
	return ends
}

func askOver(t *testing.T, c impl.Case, day int) {
	t.Helper()
	for kind := -1; kind <= 10; kind++ {
		for _, amount := range []int{0, 1, c.Amount} {
			if got, list, code := impl.CaseDo(c, act(kind, amount, 4831), day, nil); code != impl.ActState || got != c || len(list) > 0 {
				t.Errorf("act %d of %d to %v: %v %v %d", kind, amount, c, got, list, code)
			}
		}
	}
}

func TestAllLivesOfSmallCases(t *testing.T) {
	for amount := 1; amount <= 4; amount++ {
		if ends := liveOn(t, newLife(t, 1, 2, 840, amount, 9000), 9000); ends < 100 {
			t.Errorf("of %d: %d lives", amount, ends)
		}
	}
}

// chance is a row of numbers that look thrown, the same each time.
type chance uint64

func (x *chance) below(n int) int {
	*x = *x*6364136223846793005 + 1442695040888963407
	return int(uint64(*x) >> 33 % uint64(n))
}

func (x *chance) of(list []int) int { return list[x.below(len(list))] }

func TestManyLives(t *testing.T) {
	thrown := chance(9)
	offs := someOffLists()
	ends := [8]int{}
	for n := range 3000 {
		off := offs[n%len(offs)]
		amount := thrown.of([]int{1, 2, 3, 10, 10000, 123457, mostPaid - 1, mostPaid})
		today := thrown.of([]int{0, 2, 9000, lastDay - 400, lastDay - 60, lastDay})
		l := newLife(t, 1+thrown.below(9), 10+thrown.below(9989), thrown.of(ledgerCurrencies), amount, today)
		for range 60 {
			a := act(thrown.below(12)-1, thrown.of([]int{0, 1, l.c.Claim / 2, l.c.Claim - 1, l.c.Claim, l.c.Claim + 1, amount, 1 + thrown.below(amount)}), reasonRows[thrown.below(6)].code)
			if l.c.Due >= today && thrown.below(6) == 0 {
				today = l.c.Due + thrown.below(2)
			}
			today = min(today+thrown.of([]int{0, 0, 0, 1, 5}), lastDay)
			l, _ = l.do(t, a, today, off)
			if t.Failed() {
				t.Fatal("life", n)
			}
		}
		ends[l.c.State]++
	}
	if ends[7] < 1000 {
		t.Errorf("too few came to their end: %v", ends)
	}
}

// allCases are cases that are so, whether acts may lead to them or not.
func allCases() []impl.Case {
	var list []impl.Case
	for state := range 8 {
		for _, claim := range []int{0, 1, 5, 10} {
			for _, back := range []int{0, 1, 5, 10} {
				for _, due := range []int{-1, 0, 9000, 9001, lastDay} {
					for i, fees := range []int{0, 9 * theFee, 9*theFee + 1} {
						c := impl.Case{Issuer: 7, Acquirer: 3, Cur: 392, Amount: 10, State: state, Claim: claim, Back: back, Fees: fees, Copied: (claim+back+due+i)%2 == 0, Start: 8990, Due: due}
						if state >= 3 && (state < 7 || i == 0) || i == 2 {
							c.Reason = reasonRows[(claim+back+i)%6].code
						}
						list = append(list, c)
					}
				}
			}
		}
	}
	return list
}

func allActs() []impl.Act {
	var list []impl.Act
	for kind := -1; kind <= 10; kind++ {
		for _, amount := range []int{-1, 0, 1, 2, 3, 5, 6, 10, 11} {
			switch kind {
			case 2:
				for _, row := range reasonRows {
					list = append(list, act(kind, amount, row.code))
				}
				list = append(list, act(kind, amount, 0))
			case 3, 4, 7:
				list = append(list, act(kind, amount, 0))
			default:
				if within(amount, 0, 1) {
					list = append(list, act(kind, amount, 4837*amount))
				}
			}
		}
	}
	return list
}

func TestEveryActToEveryCase(t *testing.T) {
	acts := allActs()
	for _, c := range allCases() {
		if !impl.CaseOk(c) {
			t.Fatal("no case:", c)
		}
		for _, a := range acts {
			for _, today := range []int{8990, 9000, 9001} {
				scene{c, a, today, nil}.ask(t)
			}
		}
		if t.Failed() {
			return
		}
	}
}

func badCases() []impl.Case {
	var list []impl.Case
	for state := range 8 {
		for _, x := range caseChanges {
			c := anyCase(state, 4000, 3000, 30)
			if x.change(&c); !x.want {
				list = append(list, c)
			}
		}
	}
	for state := 3; state <= 6; state++ {
		list = append(list, withReason(anyCase(state, 4000, 3000, 30), 0))
	}
	return append(list, impl.Case{}, withReason(anyCase(0, 0, 0, -1), 1), withReason(anyCase(7, 0, 0, -1), -1))
}

func TestCaseDoOfNoCase(t *testing.T) {
	for _, c := range badCases() {
		for kind := -1; kind <= 10; kind++ {
			for _, today := range []int{-1, 0, 2, 30, 31, lastDay} {
				if got, list, code := impl.CaseDo(c, act(kind, 3000, 4831), today, nil); code != impl.ActDay || got != c || len(list) > 0 {
					t.Errorf("act %d on day %d to %v, which is none: %v %v %d", kind, today, c, got, list, code)
				}
			}
		}
	}
}

func TestCaseDoOnNoDay(t *testing.T) {
	for state := range 8 {
		for kind := -1; kind <= 10; kind++ {
			for _, start := range []int{0, 1, 2, 9000, lastDay} {
				c := anyCase(state, 4000, 3000, 30)
				c.Start = start
				for _, today := range slices.Concat(edgeDays, []int{start - 1, start, start + 1}) {
					_, _, code := (scene{c, act(kind, 3000, 4831), today, nil}).ask(t)
					if wrong := !isDay(today) || today < start; wrong != (code == impl.ActDay) {
						t.Errorf("act %d in %s on day %d, paid on %d: %d", kind, stateWords[state], today, start, code)
					}
				}
			}
		}
	}
}

func TestCaseDoWithoutAHolidayList(t *testing.T) {
	for i, off := range badOffLists() {
		for state := range 8 {
			for kind := -1; kind <= 10; kind++ {
				c := anyCase(state, 4000, 3000, 30)
				if got, list, code := impl.CaseDo(c, act(kind, 3000, 4831), 30, off); code != impl.ActDay || got != c || len(list) > 0 {
					t.Errorf("list %d: act %d in %s: %v %v %d", i, kind, stateWords[state], got, list, code)
				}
			}
		}
	}
	for _, off := range goodOffLists() {
		for state := range 8 {
			for kind := -1; kind <= 10; kind++ {
				if _, _, code := (scene{anyCase(state, 3000, 7000, 30), act(kind, 3000, 4831), 30, off}).ask(t); code == impl.ActDay {
					t.Errorf("%d days off: act %d in %s is refused", len(off), kind, stateWords[state])
				}
			}
		}
	}
}

// Every function is asked with anything, and answers.
func TestCasesAnswerAnything(t *testing.T) {
	thrown := chance(4)
	for range 60000 {
		c := anyCase(thrown.below(8), 4000, 3000, 30)
		c.Copied = thrown.below(2) == 0
		for range thrown.below(4) {
			*caseFields(&c)[thrown.below(11)] = thrown.of(caseInts)
		}
		a := act(thrown.of(caseInts), thrown.of(caseInts), thrown.of(caseInts))
		if thrown.below(3) > 0 {
			a.Kind = thrown.below(10)
		}
		today := thrown.of(edgeDays)
		if thrown.below(2) == 0 {
			today = thrown.below(70)
		}
		var off []int
		if thrown.below(4) == 0 {
			off = []int{thrown.of(edgeDays), thrown.of(edgeDays)}
		}
		scene{c, a, today, off}.ask(t)
		impl.CaseNet(c)
		impl.StateText(c.State)
		askCaseStart(t, c.Issuer, c.Acquirer, c.Cur, c.Amount, c.Start)
	}
}

func TestHolidaysOfACaseAreNotWrittenInto(t *testing.T) {
	for _, list := range append(goodOffLists(), badOffLists()...) {
		room := append(slices.Clone(list), 3, -7, 70000, 2, 0, lastDay, greatestInt)
		kept := slices.Clone(room)
		for state := range 8 {
			for kind := -1; kind <= 10; kind++ {
				for _, today := range []int{-1, 2, 30, 31, lastDay} {
					impl.CaseDo(anyCase(state, 3000, 7000, 30), act(kind, 3000, 4831), today, room[:len(list)])
				}
			}
		}
		if !slices.Equal(room, kept) {
			t.Errorf("a list of %d days, or the room behind it, was written into", len(list))
		}
	}
}

// What stands behind the end of a list is no part of it.
func TestHolidaysBehindTheListAreNotRead(t *testing.T) {
	room := []int{9, 30, 31, 5}
	for n, want := range []int{30, 31, 32, 33} {
		if c, _, code := impl.CaseDo(anyCase(0, 0, 0, -1), act(0, 0, 0), 2, room[:n]); code != 0 || c.Due != want {
			t.Errorf("with %d days off: %d, due on %d, want %d", n, code, c.Due, want)
		}
	}
}

func TestHolidaysOfACaseAreNotKept(t *testing.T) {
	off := []int{9}
	for _, want := range []int{31, 30, 31} {
		if c, _, _ := impl.CaseDo(anyCase(0, 0, 0, -1), act(0, 0, 0), 2, off); c.Due != want {
			t.Errorf("with day %d off it is due on %d, want %d", off[0], c.Due, want)
		}
		off[0] = 9 + 991 - off[0]
	}
	if c, _, _ := impl.CaseDo(anyCase(0, 0, 0, -1), act(0, 0, 0), 2, nil); c.Due != 30 {
		t.Error("without a day off it is due on", c.Due)
	}
}

// overwriteEntries writes into all the room that a list has.
func overwriteEntries(list []impl.Entry) {
	room := list[:cap(list)]
	for i := range room {
		room[i] = entry(-1, -2, -3, -4)
	}
}

func TestEntriesOfCasesAreNewMemory(t *testing.T) {
	asks := []func() []impl.Entry{
		func() []impl.Entry { _, list, _ := impl.CaseStart(1, 4, 840, 10000, 2); return list },
		func() []impl.Entry { _, list, _ := impl.CaseStart(1, 1, 840, 10000, 2); return list },
	}
	for state := range 8 {
		for kind := -1; kind <= 10; kind++ {
			for _, today := range []int{1, 30, 31} {
				asks = append(asks, func() []impl.Entry {
					_, list, _ := impl.CaseDo(anyCase(state, 3000, 7000, 30), act(kind, 3000, 4831), today, []int{44})
					return list
				})
			}
		}
	}
	most := 0
	for i, ask := range asks {
		one, two := ask(), ask()
		want := slices.Clone(two)
		overwriteEntries(one)
		if !slices.Equal(two, want) || !slices.Equal(ask(), want) {
			t.Errorf("answers of ask %d share memory", i)
		}
		most = max(most, len(want))
	}
	if most != 2 {
		t.Error("at most so many entries came:", most)
	}
}

// caseAnswers are the answers of every function, in one order.
func caseAnswers() []string {
	var list []string
	for state := -1; state <= 8; state++ {
		c := anyCase(state, 3000, 7000, 30)
		list = append(list, impl.StateText(state), strconv.FormatBool(impl.CaseOk(c)), strconv.Itoa(impl.CaseNet(c)))
		for kind := -1; kind <= 10; kind++ {
			for _, today := range []int{1, 30, 31, lastDay} {
				got, entries, code := impl.CaseDo(c, act(kind, 2999, 4831), today, []int{44, 51})
				list = append(list, told("", got.State, got.Reason, got.Claim, got.Back, got.Fees, got.Due, code))
				for _, e := range entries {
					list = append(list, told("", e.From, e.To, e.Cur, e.Amount))
				}
			}
		}
	}
	for acquirer := range 5 {
		c, entries, ok := impl.CaseStart(1, acquirer, 840, 10000, 2)
		list = append(list, told("", c.Issuer, c.Acquirer, c.Amount, c.Start, c.Due, len(entries)), strconv.FormatBool(ok))
	}
	return list
}

func TestCasesAnswerTheSame(t *testing.T) {
	first := caseAnswers()
	for range 20 {
		if !slices.Equal(caseAnswers(), first) {
			t.Fatal("asked again, another answer is given")
		}
	}
	same := make([]bool, 16)
	var all sync.WaitGroup
	for i := range same {
		all.Go(func() { same[i] = slices.Equal(caseAnswers(), first) })
	}
	all.Wait()
	if slices.Contains(same, false) {
		t.Error("asked side by side, another answer is given")
	}
}
