package tests

import (
	"fmt"
	"go/ast"
	"go/parser"
	"go/token"
	"maps"
	"os"
	"reflect"
	"slices"
	"strconv"
	"strings"
	"sync"
	"testing"
	"unsafe"

	"loop.example/g00126/impl"
)

// The things that an ordinary call is about.
var (
	ordinaryOff     = []int{9, 9001, 9044}
	ordinaryMessage = impl.Message{Kind: 1240, Fields: []impl.Field{{Num: 2, Data: "1"}, {Num: 4, Data: "000000000500"}, {Num: 24, Data: "200"}, {Num: 49, Data: "840"}, {Num: 93, Data: "4"}}}
	ordinaryTags    = []impl.Tag{{Num: 3, Data: "x y"}, {Num: 20, Data: ""}}
	ordinaryEntry   = impl.Entry{From: 4, To: 1, Cur: 840, Amount: 200}
	ordinaryLedger  = impl.Ledger{Lines: []impl.Line{{Acct: 1, Cur: 840, Amount: -1500}, {Acct: 4, Cur: 840, Amount: 1500}}}
	ordinaryCase    = impl.Case{Issuer: 1, Acquirer: 4, Cur: 840, Amount: 1000, State: 3, Reason: 4855, Claim: 500, Back: 500, Start: 9000, Due: 9043}
	ordinaryAuths   = []impl.Auth{{Ref: "000000000001", Issuer: 1, Cur: 840, Amount: 500, Day: 9000}, {Ref: "000000000002", Issuer: 1, Cur: 840, Amount: 490, Day: 9000}}
	ordinaryAuth    = impl.Auth{Ref: "000000000003", Issuer: 1, Cur: 840, Amount: 500, Day: 9000}
	ordinaryLines   = []string{"auth 000000000001 1 840 500", "pay 1 4 840 500", "act 0 charge 500 4855", "day 9044", "auth 000000000002 1 840 500", "x"}
	ordinaryBook    = impl.Book{Today: 9044, Off: ordinaryOff, Auths: []impl.Auth{{Ref: "000000000002", Issuer: 1, Cur: 840, Amount: 500, Day: 9044}}, Cases: []impl.Case{ordinaryCase, ordinaryCase}, Ledger: ordinaryLedger, Log: ordinaryLines}
	ordinaryScript  = "auth 000000000001 1 840 500\npay 1 4 840 500\nact 0 ask 0 0\nday 9029\ndue\nrun\nback\n"
	ordinaryCard    = "4111111111111111"
)

// An asked is a function with the arguments of an ordinary call.
type asked struct {
	function any
	args     []any
}

func ordinary(function any, args ...any) asked { return asked{function, args} }

// everyFunction has all functions of the package, so that what is promised of every one is asked of every one.
var everyFunction = map[string]asked{
	"MoneyOk":   ordinary(impl.MoneyOk, 5),
	"Digits":    ordinary(impl.Digits, 840),
	"Plus":      ordinary(impl.Plus, 1, 2),
	"Total":     ordinary(impl.Total, []int{1, 2, -9}),
	"Scale":     ordinary(impl.Scale, 5, 1, 2),
	"Split":     ordinary(impl.Split, 10, 3),
	"MoneyText": ordinary(impl.MoneyText, -1234, 840),
	"ReadMoney": ordinary(impl.ReadMoney, "-12.34", 840),
	"Convert":   ordinary(impl.Convert, 100, 840, 392, 150, 1),

	"DayOk":       ordinary(impl.DayOk, 9000),
	"DateOf":      ordinary(impl.DateOf, 9000),
	"DayOf":       ordinary(impl.DayOf, 20240822),
	"WeekDay":     ordinary(impl.WeekDay, 9000),
	"Works":       ordinary(impl.Works, 9000, ordinaryOff),
	"AddWork":     ordinary(impl.AddWork, 9000, 3, ordinaryOff),
	"WorkBetween": ordinary(impl.WorkBetween, 9000, 9010, ordinaryOff),
	"DateText":    ordinary(impl.DateText, 9000),
	"ReadDate":    ordinary(impl.ReadDate, "2024-08-22"),

	"PutDigits": ordinary(impl.PutDigits, "123"),
	"GetDigits": ordinary(impl.GetDigits, "z\x01\x23", 1, 3),
	"PutVar":    ordinary(impl.PutVar, "ab", 2),
	"GetVar":    ordinary(impl.GetVar, "z02ab", 1, 2),
	"PutSet":    ordinary(impl.PutSet, []int{2, 3, 128}),
	"GetSet":    ordinary(impl.GetSet, "z\x60\x00\x00\x00\x00\x00\x00\x00", 1),
	"PadNum":    ordinary(impl.PadNum, 7, 3),
	"NumOf":     ordinary(impl.NumOf, "007"),
	"Plain":     ordinary(impl.Plain, "x y"),

	"FieldOk":       ordinary(impl.FieldOk, impl.Field{Num: 24, Data: "200"}),
	"MessageOk":     ordinary(impl.MessageOk, ordinaryMessage),
	"FieldOf":       ordinary(impl.FieldOf, ordinaryMessage, 24),
	"With":          ordinary(impl.With, ordinaryMessage, 37, "000000000001"),
	"PackMessage":   ordinary(impl.PackMessage, ordinaryMessage),
	"UnpackMessage": ordinary(impl.UnpackMessage, "1240\x40\x00\x01\x00\x00\x00\x00\x0004\x41\x11\x02\x00"),
	"MessageText":   ordinary(impl.MessageText, ordinaryMessage),

	"TagsOk":  ordinary(impl.TagsOk, ordinaryTags),
	"PutTags": ordinary(impl.PutTags, ordinaryTags),
	"GetTags": ordinary(impl.GetTags, "0003003x y0020000"),
	"TagOf":   ordinary(impl.TagOf, ordinaryTags, 3),
	"TagSet":  ordinary(impl.TagSet, ordinaryTags, 5, "z"),
	"TagCut":  ordinary(impl.TagCut, ordinaryTags, 3),

	"Block":     ordinary(impl.Block, []string{"ab", "c"}),
	"Unblock":   ordinary(impl.Unblock, fileWith("ab", "c")),
	"Batch":     ordinary(impl.Batch, []impl.Message{ordinaryMessage, ordinaryMessage}),
	"ReadBatch": ordinary(impl.ReadBatch, batchOf(ordinaryMessage, ordinaryMessage)),

	"LedgerOk":   ordinary(impl.LedgerOk, ordinaryLedger),
	"EntryOk":    ordinary(impl.EntryOk, ordinaryEntry),
	"BalanceOf":  ordinary(impl.BalanceOf, ordinaryLedger, 1, 840),
	"Post":       ordinary(impl.Post, ordinaryLedger, ordinaryEntry),
	"PostAll":    ordinary(impl.PostAll, ordinaryLedger, []impl.Entry{ordinaryEntry, ordinaryEntry}),
	"Back":       ordinary(impl.Back, ordinaryEntry),
	"Worth":      ordinary(impl.Worth, ordinaryLedger, 840),
	"Accounts":   ordinary(impl.Accounts, ordinaryLedger),
	"LedgerText": ordinary(impl.LedgerText, ordinaryLedger),

	"ReasonOk":    ordinary(impl.ReasonOk, 4837),
	"ReasonDays":  ordinary(impl.ReasonDays, 4837),
	"ReasonPart":  ordinary(impl.ReasonPart, 4831),
	"ReasonProof": ordinary(impl.ReasonProof, 4837),
	"StepDays":    ordinary(impl.StepDays, 4),
	"Deadline":    ordinary(impl.Deadline, 9000, 20, ordinaryOff),
	"Late":        ordinary(impl.Late, 9001, 9000),
	"ReasonText":  ordinary(impl.ReasonText, 4837),
	"ReadReason":  ordinary(impl.ReadReason, "quality"),

	"CaseOk":    ordinary(impl.CaseOk, ordinaryCase),
	"CaseStart": ordinary(impl.CaseStart, 1, 4, 840, 500, 9000),
	"CaseDo":    ordinary(impl.CaseDo, ordinaryCase, impl.Act{Kind: 3, Amount: 400}, 9002, ordinaryOff),
	"CaseNet":   ordinary(impl.CaseNet, ordinaryCase),
	"StateText": ordinary(impl.StateText, 4),

	"AuthOk":     ordinary(impl.AuthOk, ordinaryAuth),
	"MatchScore": ordinary(impl.MatchScore, ordinaryAuth, 1, 840, 500, 9002),
	"MatchBest":  ordinary(impl.MatchBest, ordinaryAuths, 1, 840, 494, 9001),
	"AuthUse":    ordinary(impl.AuthUse, ordinaryAuths, 1),
	"AuthAdd":    ordinary(impl.AuthAdd, ordinaryAuths, ordinaryAuth),
	"AuthPrune":  ordinary(impl.AuthPrune, ordinaryAuths, 9001),
	"AuthText":   ordinary(impl.AuthText, ordinaryAuth),

	"BookStart":  ordinary(impl.BookStart, 9000, ordinaryOff),
	"BookDo":     ordinary(impl.BookDo, ordinaryBook, "pay 1 4 840 500"),
	"BookAll":    ordinary(impl.BookAll, 9000, ordinaryOff, ordinaryLines),
	"BookText":   ordinary(impl.BookText, ordinaryBook),
	"BookRead":   ordinary(impl.BookRead, 9000, ordinaryOff, strings.Join(ordinaryLines, "\n")),
	"BookOpen":   ordinary(impl.BookOpen, ordinaryBook),
	"BookDue":    ordinary(impl.BookDue, ordinaryBook),
	"BookExpire": ordinary(impl.BookExpire, ordinaryBook),

	"SwitchLine": ordinary(impl.SwitchLine, ordinaryMessage),
	"SwitchRun":  ordinary(impl.SwitchRun, ordinaryBook, []impl.Message{ordinaryMessage, ordinaryMessage, {Kind: 5}}),
	"SwitchFile": ordinary(impl.SwitchFile, ordinaryBook, batchOf(ordinaryMessage, ordinaryMessage)),
	"Tell":       ordinary(impl.Tell, ordinaryCase, 0),

	"Expected": ordinary(impl.Expected, ordinaryBook, 4, 840),
	"Counts":   ordinary(impl.Counts, ordinaryBook),
	"Open":     ordinary(impl.Open, ordinaryBook, 840),
	"Given":    ordinary(impl.Given, ordinaryBook, 840),
	"Busiest":  ordinary(impl.Busiest, ordinaryBook),
	"CaseText": ordinary(impl.CaseText, ordinaryCase),
	"Report":   ordinary(impl.Report, ordinaryBook),

	"DeskLine": ordinary(impl.DeskLine, ordinaryBook, "run"),
	"Desk":     ordinary(impl.Desk, ordinaryScript),

	"CardOk":     ordinary(impl.CardOk, ordinaryCard),
	"CheckDigit": ordinary(impl.CheckDigit, ordinaryCard[:15]),
	"Mask":       ordinary(impl.Mask, ordinaryCard),
	"Range":      ordinary(impl.Range, ordinaryCard),
	"Turned":     ordinary(impl.Turned, ordinaryCard, 0),
	"CardField":  ordinary(impl.CardField, ordinaryCard),
}

// exportedNames are the functions that stand in the files of the package.
func exportedNames(t *testing.T) []string {
	t.Helper()
	const folder = "../impl/"
	files, err := os.ReadDir(folder)
	if err != nil {
		t.Fatal(err)
	}
	var names []string
	for _, file := range files {
		parsed, err := parser.ParseFile(token.NewFileSet(), folder+file.Name(), nil, 0)
		if err != nil {
			t.Fatal(err)
		}
		for _, decl := range parsed.Decls {
			if f, ok := decl.(*ast.FuncDecl); ok && f.Recv == nil && f.Name.IsExported() {
				names = append(names, f.Name.Name)
			}
		}
	}
	slices.Sort(names)
	return names
}

func TestEveryFunctionIsListed(t *testing.T) {
	if listed, there := slices.Sorted(maps.Keys(everyFunction)), exportedNames(t); !slices.Equal(listed, there) {
		t.Errorf("the functions of the package are %v, those that are asked here %v", there, listed)
	}
}

// The kinds of arguments, each with its values.
type argumentKinds map[reflect.Type][]reflect.Value

func take[T any](kinds argumentKinds, list ...T) {
	kind := reflect.TypeFor[T]()
	for _, x := range list {
		kinds[kind] = append(kinds[kind], reflect.ValueOf(x))
	}
}

// someOf has at most n of a list, spread over it, the first and the last of them.
func someOf[T any](n int, list []T) []T {
	if len(list) <= n {
		return list
	}
	var some []T
	for i := range n {
		some = append(some, list[i*(len(list)-1)/(n-1)])
	}
	return some
}

// textArguments are texts that one function or another takes, what it does not, and long ones.
func textArguments() []string {
	texts := []string{"", " ", "0", "-1", "x", "\n", "\x00", "\xff\xfe", "12.34", "-0.01", "1000", "2024-08-22", "2000-02-30", "fraud", "cancelled", "4111111111111111", "411111111111111", "123456789015", "02ab", "003abc", "\x12\x34", "due", "due\nrun\nback\n"}
	for _, m := range someOf(12, goodMessages()) {
		put, _ := wantPack(m)
		texts = append(texts, put, put+"x", put[:len(put)-1])
	}
	for _, list := range someOf(6, goodTags()) {
		put, _ := wantPutTags(list)
		texts = append(texts, put)
	}
	for _, x := range talks() {
		texts = append(texts, x.text(), x.text()+"x")
	}
	files := slices.Concat(smallFiles(), []string{batchOf(toldMessages()...), batchOf(storyMessages()...), fileWith(recordsOfSize(50, 1100)...), fileWith(recordsOfSize(200, 20)...)})
	lines := slices.Concat(someOf(10, goodLines), someOf(6, oddLines), someOf(6, deskLines))
	long := []string{someText(40, 3), somePlain(998, 5), somePlain(999, 5), somePlain(1000, 5), someDigits(100, 1), someDigits(101, 1), strings.Repeat("\n", 300), strings.Repeat("\n", 301), strings.Repeat("day 9001\n", 700), someText(60000, 1), someText(60840, 1), strings.Repeat("0", 1<<17), strings.Repeat("@", 1<<17)}
	return slices.Concat(texts, files, lines, long)
}

func batchOf(list ...impl.Message) string {
	file, _ := wantBatch(list)
	return file
}

func intArguments() []int {
	small := []int{4, 5, 6, 7, 8, 9, 11, 12, 15, 18, 19, 20, 24, 37, 49, 60, 64, 65, 71, 72, 93, 128, 129, 150, 200, 400, 401, 500, 600, 978, 999, 1000, 4831, 4837, 4855, 9000, 9001, 9999, 10000, 20000101, 20240822}
	return slices.Concat(edgeInts, edgeDays, small)
}

// listArguments are the lists of numbers, texts, messages, tags, entries and authorizations.
func listArguments(kinds argumentKinds) {
	take(kinds, nil, []int{}, []int{0}, []int{greatestInt, greatestInt}, []int{leastOfInt, -1}, []int{most, -most, most}, []int{most, 1, -1}, daysFrom(0, 1, 401), daysFrom(0, 1, 5000), []int{2, 3, 128}, []int{2, 129})
	take(kinds, slices.Concat(someOf(8, goodOffLists()), someOf(8, badOffLists()), someOf(8, goodSets()), someOf(8, badSets()))...)
	take(kinds, nil, []string{}, []string{""}, goodLines, oddLines, dayLog(3), daysAt(9001, 700), []string{"day 9001", "x", "day 9002"}, slices.Repeat([]string{"x"}, 5000), wholeLines(oneCaseTalk.text()))
	take(kinds, slices.Concat(someOf(12, goodRecords()), someOf(8, badRecords()))...)
	take(kinds, nil, []impl.Message{}, []impl.Message{{}}, toldMessages(), storyMessages(), goodMessages(), badMessages(), manyMessages(198), manyMessages(199), slices.Repeat([]impl.Message{paying(1)}, 1000))
	take(kinds, slices.Concat(someOf(8, goodBatches()), someOf(8, badBatches()))...)
	take(kinds, nil, []impl.Tag{}, make([]impl.Tag, 5000))
	take(kinds, slices.Concat(someOf(20, allTags()), longTags())...)
	take(kinds, nil, []impl.Entry{}, goodEntries(), badEntries(), someEntries(30, 1, 9), []impl.Entry{entry(1, 2, 840, 5)}, []impl.Entry{entry(1, 2, 840, 5), entry(2, 2, 840, 5)}, slices.Repeat([]impl.Entry{entry(1, 2, 840, 1)}, 1000))
	take(kinds, nil, []impl.Auth{}, make([]impl.Auth, 5000), manyAuths(99), manyAuths(100), manyAuths(101))
	take(kinds, listsOfAuths()...)
}

func everyArgument(t *testing.T) argumentKinds {
	t.Helper()
	kinds := argumentKinds{}
	take(kinds, intArguments()...)
	take(kinds, textArguments()...)
	listArguments(kinds)
	take(kinds, impl.Field{}, impl.Field{Num: 2, Data: "4111111111111111"}, impl.Field{Num: 2, Data: someDigits(20, 1)}, impl.Field{Num: 72, Data: somePlain(999, 1)}, impl.Field{Num: 72, Data: somePlain(1000, 1)}, impl.Field{Num: 48}, impl.Field{Num: leastOfInt, Data: "x"}, impl.Field{Num: greatestInt, Data: someText(1<<16, 1)})
	take(kinds, impl.Message{}, impl.Message{Kind: leastOfInt}, impl.Message{Kind: greatestInt, Fields: make([]impl.Field, 5000)}, wholeMessage())
	take(kinds, slices.Concat(goodMessages(), someOf(20, badMessages()), toldMessages())...)
	take(kinds, someOf(50, allLedgers())...)
	take(kinds, impl.Ledger{Lines: make([]impl.Line, 5000)}, linesOfAll(400), steepLines(399))
	take(kinds, slices.Concat(someOf(25, goodEntries()), someOf(25, badEntries()))...)
	take(kinds, impl.Case{}, impl.Case{Issuer: leastOfInt, Amount: leastOfInt, Back: greatestInt, Claim: greatestInt, Due: greatestInt}, anyCase(0, 0, 0, -1), anyCase(3, 500, 500, 9000))
	take(kinds, slices.Concat(someOf(100, allCases()), someOf(60, badCases()))...)
	take(kinds, someOf(60, allActs())...)
	take(kinds, slices.Concat(someOf(40, goodAuths()), badAuths())...)
	take(kinds, slices.Concat(someOf(60, oddBooks()), someBooks(t), deskBooks(t))...)
	take(kinds, bookOf(closedCases(5000)...), impl.Book{Today: greatestInt, Off: []int{5, 5}, Log: slices.Repeat([]string{"x"}, 5000)}, impl.Book{Today: 9000, Auths: make([]impl.Auth, 5000), Ledger: impl.Ledger{Lines: make([]impl.Line, 5000)}})
	return kinds
}

// behindOf is what stands behind the end of a list: nothing that a list would have there by itself.
func behindOf(kind reflect.Type) reflect.Value {
	v := reflect.New(kind).Elem()
	switch kind.Kind() {
	case reflect.Int:
		v.SetInt(-7777)
	case reflect.Bool:
		v.SetBool(true)
	case reflect.String:
		v.SetString("behind the end")
	case reflect.Struct:
		for i := range kind.NumField() {
			v.Field(i).Set(behindOf(kind.Field(i).Type))
		}
	case reflect.Slice:
		v.Set(reflect.Append(v, behindOf(kind.Elem())))
	}
	return v
}

// isFlat tells that a value has no memory beside its own, so that it need not be looked into.
func isFlat(kind reflect.Type) bool {
	switch kind.Kind() {
	case reflect.String, reflect.Slice:
		return false
	case reflect.Struct:
		for i := range kind.NumField() {
			if !isFlat(kind.Field(i).Type) {
				return false
			}
		}
	}
	return true
}

// copyOf copies all that v has; a list becomes what the function makes of it.
func copyOf(v reflect.Value, list func(reflect.Value) reflect.Value) reflect.Value {
	own := reflect.New(v.Type()).Elem()
	switch v.Kind() {
	case reflect.String:
		own.SetString(strings.Clone(v.String()))
	case reflect.Struct:
		for i := range v.NumField() {
			own.Field(i).Set(copyOf(v.Field(i), list))
		}
	case reflect.Slice:
		own.Set(list(v))
	default:
		own.Set(v)
	}
	return own
}

func copyItems(to, from reflect.Value, item func(reflect.Value) reflect.Value) {
	reflect.Copy(to, from)
	for i := 0; i < from.Len() && !isFlat(from.Type().Elem()); i++ {
		to.Index(i).Set(item(from.Index(i)))
	}
}

// withRoomBehind shares nothing with v, and has room behind each of its lists, with something in it.
func withRoomBehind(v reflect.Value) reflect.Value {
	return copyOf(v, func(v reflect.Value) reflect.Value {
		list := reflect.MakeSlice(v.Type(), v.Len()+2, v.Len()+2)
		copyItems(list, v, withRoomBehind)
		for i := v.Len(); i < list.Len(); i++ {
			list.Index(i).Set(behindOf(v.Type().Elem()))
		}
		return list.Slice(0, v.Len())
	})
}

// withAllRoom is a copy of v in which the room behind each list is a part of it.
func withAllRoom(v reflect.Value) reflect.Value {
	return copyOf(v, func(v reflect.Value) reflect.Value {
		list := reflect.MakeSlice(v.Type(), v.Cap(), v.Cap())
		copyItems(list, v.Slice(0, v.Cap()), withAllRoom)
		return list
	})
}

// withoutRoom is a copy of v in which an empty list is none, as the two are the same value.
func withoutRoom(v reflect.Value) reflect.Value {
	return copyOf(v, func(v reflect.Value) reflect.Value {
		if v.Len() == 0 {
			return reflect.Zero(v.Type())
		}
		list := reflect.MakeSlice(v.Type(), v.Len(), v.Len())
		copyItems(list, v, withoutRoom)
		return list
	})
}

func eachOf(list []reflect.Value, change func(reflect.Value) reflect.Value) []reflect.Value {
	var changed []reflect.Value
	for _, v := range list {
		changed = append(changed, change(v))
	}
	return changed
}

func sameValues(a, b []reflect.Value) bool {
	for i := range a {
		if !reflect.DeepEqual(a[i].Interface(), b[i].Interface()) {
			return false
		}
	}
	return len(a) == len(b)
}

// A stretch is a piece of memory, of an argument or of an answer.
type stretch struct {
	from, to uintptr
	answer   bool
	list     bool
}

func stretchesOf(v reflect.Value, answer bool) []stretch {
	var all []stretch
	switch v.Kind() {
	case reflect.String:
		if s := v.String(); s != "" {
			from := uintptr(unsafe.Pointer(unsafe.StringData(s)))
			all = append(all, stretch{from, from + uintptr(len(s)), answer, false})
		}
	case reflect.Struct:
		for i := range v.NumField() {
			all = append(all, stretchesOf(v.Field(i), answer)...)
		}
	case reflect.Slice:
		if size := uintptr(v.Cap()) * v.Type().Elem().Size(); size > 0 {
			all = append(all, stretch{v.Pointer(), v.Pointer() + size, answer, true})
		}
		for i := 0; i < v.Len() && !isFlat(v.Type().Elem()); i++ {
			all = append(all, stretchesOf(v.Index(i), answer)...)
		}
	}
	return all
}

// areApart wants no memory of an answer within an argument, and no two lists of an answer on one piece.
func areApart(args, answers []reflect.Value) bool {
	var all []stretch
	for _, v := range args {
		all = append(all, stretchesOf(v, false)...)
	}
	for _, v := range answers {
		all = append(all, stretchesOf(v, true)...)
	}
	slices.SortFunc(all, func(a, b stretch) int { return int(a.from) - int(b.from) })
	var argsEnd, answersEnd, listsEnd uintptr
	for _, x := range all {
		if x.answer && (x.from < argsEnd || x.list && x.from < listsEnd) || !x.answer && x.from < answersEnd {
			return false
		}
		if !x.answer {
			argsEnd = max(argsEnd, x.to)
			continue
		}
		answersEnd = max(answersEnd, x.to)
		if x.list {
			listsEnd = max(listsEnd, x.to)
		}
	}
	return true
}

// A call is a function with its arguments.
type call struct {
	name     string
	function reflect.Value
	args     []reflect.Value
}

func (c call) String() string {
	var words []string
	for _, v := range c.args {
		words = append(words, fmt.Sprintf("%.300q", fmt.Sprintf("%+v", v)))
	}
	return c.name + " of " + strings.Join(words, ", ")
}

func (c call) with(change func(reflect.Value) reflect.Value) call {
	return call{c.name, c.function, eachOf(c.args, change)}
}

// answers are what is answered, or what the panic says.
func (c call) answers() (list []reflect.Value, fault any) {
	defer func() { fault = recover() }()
	return c.function.Call(c.args), nil
}

// ask holds a call against the promise, and tells what it answered.
func (c call) ask(t *testing.T) []reflect.Value {
	t.Helper()
	c = c.with(withRoomBehind)
	kept := c.with(withAllRoom)
	first, fault := c.answers()
	if fault != nil {
		t.Fatalf("%v panics: %v", c, fault)
	}
	want := eachOf(first, withoutRoom)
	second, fault := c.answers()
	if fault != nil || !sameValues(eachOf(second, withoutRoom), want) {
		t.Errorf("asked again, %v is answered by %v, first it was %v", c, second, first)
	}
	if !sameValues(c.with(withAllRoom).args, kept.args) {
		t.Errorf("an argument of %v, or the room behind it, was written into", c)
	}
	if !areApart(c.args, first) || !areApart(nil, slices.Concat(first, second)) {
		t.Errorf("what %v answers shares memory", c)
	}
	bare := c.with(withoutRoom)
	if third, fault := bare.answers(); fault != nil || !sameValues(eachOf(third, withoutRoom), want) {
		t.Errorf("without room behind its lists %v is answered by %v, with room it is %v", bare, third, first)
	}
	return want
}

func (x asked) call(name string) call {
	var args []reflect.Value
	for _, arg := range x.args {
		args = append(args, reflect.ValueOf(arg))
	}
	return call{name, reflect.ValueOf(x.function), args}
}

// everyCall has the ordinary call first; then each value of each kind stands at each place of it, one at a time; and then chance has its way at all places.
func everyCall(name string, kinds argumentKinds, more int) []call {
	usual := everyFunction[name].call(name)
	calls := []call{usual}
	thrown := chance(len(name) + int(name[0]) + 31*int(name[len(name)-1]))
	for at := range usual.args {
		for _, value := range kinds[usual.function.Type().In(at)] {
			next := usual
			next.args = slices.Clone(usual.args)
			next.args[at] = value
			calls = append(calls, next)
		}
	}
	for range more {
		next := usual
		next.args = slices.Clone(usual.args)
		for at := range next.args {
			if values := kinds[usual.function.Type().In(at)]; thrown.below(4) > 0 {
				next.args[at] = values[thrown.below(len(values))]
			}
		}
		calls = append(calls, next)
	}
	return calls
}

func TestEveryFunctionAnswersAndWritesIntoNone(t *testing.T) {
	kinds := everyArgument(t)
	for _, name := range slices.Sorted(maps.Keys(everyFunction)) {
		calls := everyCall(name, kinds, 200)
		first, others := calls[0].ask(t), 0
		for _, c := range calls[1:] {
			if !sameValues(c.ask(t), first) {
				others++
			}
		}
		// A function that answers to one call as to another has hardly been asked.
		if others < 3 {
			t.Errorf("of %d calls of %s all but %d answer as the ordinary one", len(calls), name, others)
		}
	}
}

// edgesOfNumbers are so few that a function can be asked for all of them at all its places.
var edgesOfNumbers = []int{leastOfInt, -1, 0, 1, 2, 840, 9000, most, greatestInt}

// Functions of numbers alone are asked for each number beside each other one.
func TestEveryFunctionOfNumbers(t *testing.T) {
	number := reflect.TypeFor[int]()
	asked := 0
	for _, name := range slices.Sorted(maps.Keys(everyFunction)) {
		function := reflect.ValueOf(everyFunction[name].function)
		lists := [][]reflect.Value{nil}
		for i := range function.Type().NumIn() {
			if function.Type().In(i) != number {
				lists = nil
			}
			var longer [][]reflect.Value
			for _, list := range lists {
				for _, x := range edgesOfNumbers {
					longer = append(longer, append(slices.Clone(list), reflect.ValueOf(x)))
				}
			}
			lists = longer
		}
		for _, args := range lists {
			c := call{name, function, args}
			first, fault := c.answers()
			second, _ := c.answers()
			if fault != nil || !sameValues(eachOf(first, withoutRoom), eachOf(second, withoutRoom)) || !areApart(nil, slices.Concat(first, second)) {
				t.Fatalf("%v is answered by %v, and then by %v (%v)", c, first, second, fault)
			}
		}
		asked += len(lists)
	}
	if asked < 100000 {
		t.Error("only", asked, "calls were made")
	}
}

// All that ask side by side share their arguments, so that one who writes into them is seen by the others.
func TestEveryFunctionSideBySide(t *testing.T) {
	kinds := everyArgument(t)
	for _, name := range slices.Sorted(maps.Keys(everyFunction)) {
		calls := someOf(40, everyCall(name, kinds, 0))
		var want [][]reflect.Value
		for i, c := range calls {
			calls[i] = c.with(withRoomBehind)
			first, _ := calls[i].answers()
			want = append(want, eachOf(first, withoutRoom))
		}
		wrong := make([]string, 4)
		var all sync.WaitGroup
		for i := range wrong {
			all.Go(func() {
				for k, c := range calls {
					got, fault := c.answers()
					if fault != nil || !sameValues(eachOf(got, withoutRoom), want[k]) {
						wrong[i] = c.String()
					}
				}
			})
		}
		all.Wait()
		if said := strings.Join(wrong, ""); said != "" {
			t.Errorf("asked side by side, another answer is given: %s", said)
		}
	}
}

// What one function answers is no other's affair: asked between all others, each answers as it did.
func TestNothingIsKept(t *testing.T) {
	kinds := everyArgument(t)
	names := slices.Sorted(maps.Keys(everyFunction))
	answersOf := func(turn int) map[string][]reflect.Value {
		told := map[string][]reflect.Value{}
		for i := range names {
			name := names[(i*turn+turn)%len(names)]
			for k, c := range someOf(12, everyCall(name, kinds, 0)) {
				got, _ := c.answers()
				told[name+" "+strconv.Itoa(k)] = eachOf(got, withoutRoom)
			}
		}
		return told
	}
	first := answersOf(1)
	for _, turn := range []int{2, 3, 50} {
		for name, got := range answersOf(turn) {
			if !sameValues(got, first[name]) {
				t.Errorf("asked in another order, %s is %v, first it was %v", name, got, first[name])
			}
		}
	}
}
