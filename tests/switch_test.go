package tests

import (
	"fmt"
	"regexp"
	"slices"
	"strconv"
	"strings"
	"sync"
	"testing"

	"loop.example/g00126/impl"
)

// A switchRow is a kind with its function (none where any will do) and the form of its line. A word of the form that begins with a capital is made of the field of that number, or of the tag for T and W.
type switchRow struct {
	kind     int
	function string
	form     string
}

var switchRows = []switchRow{
	{1100, "", "auth R37 A2 N49 N4"},
	{1240, "200", "pay A2 A93 N49 N4"},
	{1644, "603", "act T1 ask 0 0"},
	{1644, "605", "act T1 give 0 0"},
	{1442, "450", "act T1 charge N4 N25"},
	{1240, "205", "act T1 answer N4 0"},
	{1442, "451", "act T1 second N4 0"},
	{1740, "700", "act T1 W2 O4 0"},
}

// wordForms take the word of a line out of what a field or a tag says.
var wordForms = map[byte]*regexp.Regexp{
	'R': regexp.MustCompile(`\A([!-~]{12})\z`),
	'A': regexp.MustCompile(`\A0*([1-9][0-9]{0,3})\z`),
	'N': regexp.MustCompile(`\A0*([0-9]+)\z`),
	'O': regexp.MustCompile(`\A0*([0-9]+)\z`),
	'T': regexp.MustCompile(`\A0*([0-9]+)\z`),
	'W': regexp.MustCompile(`\A(accept|refuse|rule|close)\z`),
}

// word is what stands in the line for a word of the form; false where there is none.
func (r switchRow) word(word string, data map[int]string) (string, bool) {
	num, _ := strconv.Atoi(word[1:])
	text, there := data[num]
	if !there && word[0] == 'O' {
		return "0", true
	}
	found := wordForms[word[0]].FindStringSubmatch(text)
	if !there || found == nil || word[0] == 'T' && len(text) > 9 {
		return "", false
	}
	return found[1], true
}

func (r switchRow) tells(fields, tags map[int]string) (string, int) {
	words := strings.Split(r.form, " ")
	faults := []int{}
	for i, word := range words {
		from, fault := fields, 2
		if word[0] == 'T' || word[0] == 'W' {
			from, fault = tags, 3
		}
		if wordForms[word[0]] == nil {
			continue
		}
		text, ok := r.word(word, from)
		words[i] = text
		if !ok {
			faults = append(faults, fault)
		}
	}
	if len(faults) > 0 {
		return "", slices.Min(faults)
	}
	return strings.Join(words, " "), 0
}

// wantSwitchLine is the second reckoning: the lines are made by their forms, and nothing of the program is asked.
func wantSwitchLine(m impl.Message) (string, int) {
	if !wantMessageOk(m) {
		return "", 1
	}
	fields, tags := map[int]string{}, map[int]string{}
	for _, f := range m.Fields {
		fields[f.Num] = f.Data
	}
	list, _ := wantGetTags(fields[48])
	for _, tag := range list {
		tags[tag.Num] = tag.Data
	}
	for _, row := range switchRows {
		if row.kind == m.Kind && (row.function == "" || row.function == fields[24]) {
			return row.tells(fields, tags)
		}
	}
	return "", 1
}

func wantSwitchRun(b impl.Book, list []impl.Message) (impl.Book, []impl.Reject) {
	var rejects []impl.Reject
	for at, m := range list {
		line, code := wantSwitchLine(m)
		if code == 0 {
			b, code = wantBookDo(b, line)
			if code != 0 {
				code += 10
			}
		}
		if code != 0 {
			rejects = append(rejects, impl.Reject{At: at, Code: code})
		}
	}
	return b, rejects
}

func wantSwitchFile(b impl.Book, file string) (impl.Book, []impl.Reject, int) {
	list, code := wantReadBatch(file)
	if code != 0 {
		return b, nil, code
	}
	next, rejects := wantSwitchRun(b, list)
	return next, rejects, 0
}

// wantMoney is the text of an amount that is not below 0.
func wantMoney(x, cur int) string {
	digits := currencyDigits[cur]
	if digits == 0 {
		return fmt.Sprint(x)
	}
	text := fmt.Sprintf("%0*d", digits+1, x)
	return text[:len(text)-digits] + "." + text[len(text)-digits:]
}

func wantTell(c impl.Case, n int) (impl.Message, bool) {
	if !wantCaseOk(c) || !within(n, 0, 9999) {
		return impl.Message{}, false
	}
	tags := ""
	for i, data := range []string{fmt.Sprint(n), stateWords[c.State], wantMoney(c.Claim, c.Cur)} {
		tags += fmt.Sprintf("%04d%03d%s", i+1, len(data), data)
	}
	return impl.Message{Kind: 1644, Fields: []impl.Field{
		fieldOf(4, fmt.Sprintf("%012d", c.Back)), fieldOf(24, "691"), fieldOf(48, tags), fieldOf(49, fmt.Sprintf("%03d", c.Cur)),
	}}, true
}

// fromText is the message of a text as MessageText tells it, whether it is so or not; _ stands for a blank.
func fromText(s string) impl.Message {
	words := strings.Split(s, " ")
	kind, err := strconv.Atoi(words[0])
	if err != nil {
		panic(err)
	}
	m := impl.Message{Kind: kind}
	for _, word := range words[1:] {
		num, data, _ := strings.Cut(word, "=")
		x, err := strconv.Atoi(num)
		if err != nil {
			panic(err)
		}
		m.Fields = append(m.Fields, fieldOf(x, strings.ReplaceAll(data, "_", " ")))
	}
	return m
}

// tagsSaying is field 48 of tags 1, 2 .. with these data.
func tagsSaying(data ...string) string {
	var list []impl.Tag
	for i, one := range data {
		list = append(list, impl.Tag{Num: i + 1, Data: one})
	}
	put, ok := wantPutTags(list)
	if !ok {
		panic("a test puts what are no tags")
	}
	return put
}

func withField(m impl.Message, num int, data string) impl.Message {
	list := append(fieldsBut(m, num), fieldOf(num, data))
	slices.SortFunc(list, func(a, b impl.Field) int { return a.Num - b.Num })
	return impl.Message{Kind: m.Kind, Fields: list}
}

func withoutField(m impl.Message, num int) impl.Message {
	return impl.Message{Kind: m.Kind, Fields: fieldsBut(m, num)}
}

func asKind(m impl.Message, kind int) impl.Message { return impl.Message{Kind: kind, Fields: m.Fields} }

// askLine holds the line of a message against the second reckoning, and wants it to be one of the book.
func askLine(t *testing.T, m impl.Message) (string, int) {
	t.Helper()
	got, code := impl.SwitchLine(m)
	if want, wantCode := wantSwitchLine(m); got != want || code != wantCode {
		t.Errorf("SwitchLine(%+v) = %q, %d; want %q, %d", m, got, code, want, wantCode)
	}
	if code != 0 && got != "" {
		t.Errorf("SwitchLine(%+v) = %q beside %d", m, got, code)
	}
	if _, said := impl.BookDo(impl.Book{Today: 9000}, got); code == 0 && said == impl.BookLine {
		t.Errorf("SwitchLine(%+v) = %q, which is no line of a book", m, got)
	}
	return got, code
}

func tellsLine(t *testing.T, m impl.Message, want string, wantCode int) {
	t.Helper()
	if got, code := askLine(t, m); got != want || code != wantCode {
		t.Errorf("SwitchLine(%+v) = %q, %d; want %q, %d", m, got, code, want, wantCode)
	}
}

// askRun holds a run against the second reckoning and against the lines of its messages, done one by one.
func askRun(t *testing.T, b impl.Book, list []impl.Message) (impl.Book, []impl.Reject) {
	t.Helper()
	got, rejects := impl.SwitchRun(b, list)
	want, wantRejects := wantSwitchRun(b, list)
	if !sameBook(got, want) || !slices.Equal(rejects, wantRejects) {
		t.Errorf("%d messages to %s:\n%s, %v, want\n%s, %v", len(list), shortBook(b), shortBook(got), rejects, shortBook(want), wantRejects)
	}
	if one, said := oneByOne(b, list); !sameBook(got, one) || !slices.Equal(rejects, said) {
		t.Errorf("%d messages to %s:\n%s, %v, one by one\n%s, %v", len(list), shortBook(b), shortBook(got), rejects, shortBook(one), said)
	}
	if len(got.Log)-len(b.Log)+len(rejects) != len(list) {
		t.Errorf("of %d messages %d are done and %d rejected", len(list), len(got.Log)-len(b.Log), len(rejects))
	}
	return got, rejects
}

func oneByOne(b impl.Book, list []impl.Message) (impl.Book, []impl.Reject) {
	var rejects []impl.Reject
	for at, m := range list {
		line, code := impl.SwitchLine(m)
		if code != impl.SwitchDone {
			rejects = append(rejects, impl.Reject{At: at, Code: code})
			continue
		}
		if b, code = impl.BookDo(b, line); code != impl.BookDone {
			rejects = append(rejects, impl.Reject{At: at, Code: impl.SwitchBook + code})
		}
	}
	return b, rejects
}

func askFile(t *testing.T, b impl.Book, file string) (impl.Book, []impl.Reject, int) {
	t.Helper()
	got, rejects, code := impl.SwitchFile(b, file)
	want, wantRejects, wantCode := wantSwitchFile(b, file)
	if code != wantCode || !sameBook(got, want) || !slices.Equal(rejects, wantRejects) {
		t.Errorf("a file of %d bytes to %s:\n%d, %s, %v, want\n%d, %s, %v", len(file), shortBook(b), code, shortBook(got), rejects, wantCode, shortBook(want), wantRejects)
	}
	if _, read := impl.ReadBatch(file); code != read {
		t.Errorf("a file of %d bytes: code %d, and ReadBatch says %d", len(file), code, read)
	}
	if code != 0 && (!sameBook(got, b) || len(rejects) > 0) {
		t.Errorf("a file of %d bytes is refused with %d, and makes %s of %s, %v", len(file), code, shortBook(got), shortBook(b), rejects)
	}
	return got, rejects, code
}

// askTell holds what is told of a case against the second reckoning, and wants back from its bytes what was told.
func askTell(t *testing.T, c impl.Case, n int) (impl.Message, bool) {
	t.Helper()
	got, ok := impl.Tell(c, n)
	if want, wantOk := wantTell(c, n); ok != wantOk || !sameMessage(got, want) {
		t.Errorf("Tell(%+v, %d) = %+v, %v; want %+v, %v", c, n, got, ok, want, wantOk)
	}
	if !ok {
		if !isZeroMessage(got) {
			t.Errorf("Tell(%+v, %d) = %+v beside false", c, n, got)
		}
		return got, ok
	}
	if !impl.MessageOk(got) {
		t.Errorf("Tell(%+v, %d) = %+v, which is no message", c, n, got)
	}
	packed := askComesBack(t, got)
	back, _, _ := impl.UnpackMessage(packed)
	askToldOf(t, back, c, n)
	return got, ok
}

// askToldOf reads the state, the claim, what was given back, the currency and the number again.
func askToldOf(t *testing.T, m impl.Message, c impl.Case, n int) {
	t.Helper()
	sum, _ := impl.FieldOf(m, 4)
	cur, _ := impl.FieldOf(m, 49)
	data, _ := impl.FieldOf(m, 48)
	tags, ok := impl.GetTags(data)
	number, _ := impl.TagOf(tags, 1)
	state, _ := impl.TagOf(tags, 2)
	text, _ := impl.TagOf(tags, 3)
	claim, read := impl.ReadMoney(text, c.Cur)
	if !ok || !read || impl.NumOf(sum) != c.Back || impl.NumOf(cur) != c.Cur || number != strconv.Itoa(n) || state != impl.StateText(c.State) || claim != c.Claim {
		t.Errorf("%+v told of %+v, number %d", m, c, n)
	}
}

// toldLines are the messages of all kinds and functions with their lines, by hand.
var toldLines = []struct{ text, line string }{
	{"1100 2=0001 4=000000000500 37=000000000001 49=840", "auth 000000000001 1 840 500"},
	{"1240 2=1 4=000000000500 24=200 49=840 93=4", "pay 1 4 840 500"},
	{"1644 24=603 48=00010010", "act 0 ask 0 0"},
	{"1644 24=605 48=000100212", "act 12 give 0 0"},
	{"1442 4=000000000500 24=450 25=4855 48=00010013", "act 3 charge 500 4855"},
	{"1240 4=000000000499 24=205 48=00010014", "act 4 answer 499 0"},
	{"1442 4=000000000498 24=451 48=00010015", "act 5 second 498 0"},
	{"1740 24=700 48=000100160002006accept", "act 6 accept 0 0"},
	{"1740 24=700 48=000100170002006refuse", "act 7 refuse 0 0"},
	{"1740 4=000000000497 24=700 48=000100180002004rule", "act 8 rule 497 0"},
	{"1740 24=700 48=000100190002005close", "act 9 close 0 0"},
}

func toldMessages() []impl.Message {
	var list []impl.Message
	for _, x := range toldLines {
		list = append(list, fromText(x.text))
	}
	return list
}

func TestCodesOfTheSwitch(t *testing.T) {
	codes := []int{impl.SwitchDone, impl.SwitchKind, impl.SwitchField, impl.SwitchTag, impl.SwitchBook}
	if !slices.Equal(codes, []int{0, 1, 2, 3, 10}) {
		t.Error("the codes are", codes)
	}
}

func TestSwitchLineNamed(t *testing.T) {
	for _, x := range toldLines {
		tellsLine(t, fromText(x.text), x.line, 0)
		// Fields and tags that are not asked for change nothing.
		m := fromText(x.text)
		for _, more := range wholeMessage().Fields {
			if more.Num != 48 && !slices.ContainsFunc(m.Fields, func(f impl.Field) bool { return f.Num == more.Num }) && !(m.Kind == 1740 && more.Num == 4) {
				m = withField(m, more.Num, more.Data)
			}
		}
		tellsLine(t, m, x.line, 0)
		if data, there := impl.FieldOf(m, 48); there {
			tellsLine(t, withField(m, 48, data+"0003004rule"+"9999000"), x.line, 0)
		}
	}
}

// The edges that the chapter names, by hand.
func TestSwitchLineEdges(t *testing.T) {
	for _, x := range []struct {
		text string
		line string
		code int
	}{
		{"1100 2=9999 4=999999999999 37=!~abcdefgh,; 49=999", "auth !~abcdefgh,; 9999 999 999999999999", 0},
		{"1100 2=1 4=000000000000 37=000000000001 49=000", "auth 000000000001 1 0 0", 0},
		{"1100 2=1 4=000000000500 37=000000000001 49=048", "auth 000000000001 1 48 500", 0},
		{"1100 2=1 4=100000000000 37=000000000001 49=036", "auth 000000000001 1 36 100000000000", 0},
		{"1100 2=0000000000000000001 4=000000000500 37=000000000001 49=840", "auth 000000000001 1 840 500", 0},
		{"1100 2=0000000000000009999 4=000000000500 37=000000000001 49=840", "auth 000000000001 9999 840 500", 0},
		{"1100 2=0000000000000010000 4=000000000500 37=000000000001 49=840", "", 2},
		{"1100 2=0000000000000000000 4=000000000500 37=000000000001 49=840", "", 2},
		{"1100 2=1000000000000000001 4=000000000500 37=000000000001 49=840", "", 2},
		{"1100 2=0 4=000000000500 37=000000000001 49=840", "", 2},
		{"1100 2= 4=000000000500 37=000000000001 49=840", "", 2},
		{"1100 2=10000 4=000000000500 37=000000000001 49=840", "", 2},
		{"1100 2=1x 4=000000000500 37=000000000001 49=840", "", 1},
		{"1100 2=_1 4=000000000500 37=000000000001 49=840", "", 1},
		{"1100 2=-1 4=000000000500 37=000000000001 49=840", "", 1},
		{"1100 2=1 4=000000000500 37=00000000001 49=840", "", 1},
		{"1100 2=1 4=000000000500 37=0000000000001 49=840", "", 1},
		{"1100 2=1 4=000000000500 37=00000_000001 49=840", "", 2},
		{"1100 2=1 4=000000000500 37=_00000000001 49=840", "", 2},
		{"1100 2=1 4=000000000500 37=00000000001_ 49=840", "", 2},
		{"1100 2=1 4=00000000050 37=000000000001 49=840", "", 1},
		{"1100 2=1 4=000000000500 37=000000000001 49=84", "", 1},
		{"1100 4=000000000500 37=000000000001 49=840", "", 2},
		{"1100 2=1 37=000000000001 49=840", "", 2},
		{"1100 2=1 4=000000000500 49=840", "", 2},
		{"1100 2=1 4=000000000500 37=000000000001", "", 2},
		{"1100", "", 2},
		{"1100 24=700", "", 2},
		// The kind alone tells what is authorized.
		{"1100 2=1 4=000000000500 24=100 37=000000000001 49=840", "auth 000000000001 1 840 500", 0},
		{"1100 2=1 4=000000000500 24=200 37=000000000001 49=840", "auth 000000000001 1 840 500", 0},
		{"1100 2=1 4=000000000500 24=000 37=000000000001 49=840", "auth 000000000001 1 840 500", 0},
		// A field 48 that is not asked for is not read.
		{"1100 2=1 4=000000000500 37=000000000001 48=x 49=840", "auth 000000000001 1 840 500", 0},
		{"1240 2=1 4=000000000500 24=200 48=0001 49=840 93=4", "pay 1 4 840 500", 0},
		{"1240 2=0009999 4=000000000001 24=200 49=392 93=00000000001", "pay 9999 1 392 1", 0},
		{"1240 2=1 4=000000000001 24=200 49=392 93=00000009999", "pay 1 9999 392 1", 0},
		{"1240 2=1 4=000000000001 24=200 49=392 93=1", "pay 1 1 392 1", 0},
		{"1240 2=1 4=000000000001 24=200 49=392 93=00000010000", "", 2},
		{"1240 2=1 4=000000000001 24=200 49=392 93=00000000000", "", 2},
		{"1240 2=1 4=000000000001 24=200 49=392 93=", "", 2},
		{"1240 2= 4=000000000001 24=200 49=392 93=1", "", 2},
		{"1240 2=1 4=000000000001 24=200 49=392", "", 2},
		{"1240 4=000000000001 24=200 49=392 93=1", "", 2},
		{"1240 2=1 24=200 49=392 93=1", "", 2},
		{"1240 2=1 4=000000000001 24=200 93=1", "", 2},
		{"1240 2=1 4=000000000001 49=392 93=1", "", 1},
		{"1240 2=1 4=000000000001 24=201 49=392 93=1", "", 1},
		{"1240 24=200", "", 2},
		{"1240", "", 1},
		{"1644", "", 1},
		{"1442", "", 1},
		{"1740", "", 1},
		{"0", "", 1},
		{"1644 24=603", "", 3},
		{"1644 24=605", "", 3},
		{"1644 24=604 48=00010010", "", 1},
		{"1644 24=691 48=00010010", "", 1},
		{"1644 24=695 48=00010010", "", 1},
		{"1644 24=697 48=00010010", "", 1},
		{"1644 24=603 48=", "", 3},
		{"1644 24=603 48=0001000", "", 3},
		{"1644 24=603 48=00020010", "", 3},
		{"1644 24=603 48=0001001", "", 3},
		{"1644 24=603 48=00010010x", "", 3},
		{"1644 24=603 48=00010011" + "00010011", "", 3},
		{"1644 24=603 48=00020011" + "00010011", "", 3},
		{"1644 24=603 48=" + tagsSaying("999999999"), "act 999999999 ask 0 0", 0},
		{"1644 24=603 48=" + tagsSaying("1000000000"), "", 3},
		{"1644 24=603 48=" + tagsSaying("0000000001"), "", 3},
		{"1644 24=603 48=" + tagsSaying("000000001"), "act 1 ask 0 0", 0},
		{"1644 24=603 48=" + tagsSaying("000000000"), "act 0 ask 0 0", 0},
		{"1644 24=603 48=" + tagsSaying("0000000000"), "", 3},
		{"1644 24=605 48=" + tagsSaying("000000150"), "act 150 give 0 0", 0},
		{"1644 24=603 48=" + tagsSaying("1_"), "", 3},
		{"1644 24=603 48=" + tagsSaying("_1"), "", 3},
		{"1644 24=603 48=" + tagsSaying("-1"), "", 3},
		{"1644 24=603 48=" + tagsSaying("+1"), "", 3},
		{"1644 24=603 48=" + tagsSaying("x"), "", 3},
		{"1442 4=000000000000 24=450 25=0000 48=00010010", "act 0 charge 0 0", 0},
		{"1442 4=999999999999 24=450 25=9999 48=00010010", "act 0 charge 999999999999 9999", 0},
		{"1442 4=000000000500 24=450 25=0042 48=00010010", "act 0 charge 500 42", 0},
		{"1442 24=450 25=4855 48=00010010", "", 2},
		{"1442 4=000000000500 24=450 48=00010010", "", 2},
		{"1442 4=000000000500 24=450 25=4855", "", 3},
		{"1442 4=000000000500 25=4855 48=00010010", "", 1},
		{"1442 4=000000000500 24=452 25=4855 48=00010010", "", 1},
		{"1442 24=450 48=x", "", 2},
		{"1442 24=451 48=00010010", "", 2},
		{"1442 24=451", "", 2},
		{"1442 4=000000000500 24=451", "", 3},
		{"1240 24=205 48=00010010", "", 2},
		{"1240 4=000000000500 24=205 48=x", "", 3},
		{"1740 4=000000000000 24=700 48=" + tagsSaying("0", "rule"), "act 0 rule 0 0", 0},
		{"1740 24=700 48=" + tagsSaying("0", "rule"), "act 0 rule 0 0", 0},
		{"1740 4=000000000007 24=700 48=" + tagsSaying("0", "accept"), "act 0 accept 7 0", 0},
		{"1740 4=999999999999 24=700 48=" + tagsSaying("000000007", "close"), "act 7 close 999999999999 0", 0},
		{"1740 24=700", "", 3},
		{"1740 24=700 48=00010010", "", 3},
		{"1740 24=700 48=0002004rule", "", 3},
		{"1740 24=700 48=" + tagsSaying("0", ""), "", 3},
		{"1740 24=700 48=" + tagsSaying("", "rule"), "", 3},
		{"1740 24=700 48=" + tagsSaying("rule", "0"), "", 3},
		{"1740 24=700 48=" + tagsSaying("0", "expire"), "", 3},
		{"1740 24=700 48=" + tagsSaying("0", "ask"), "", 3},
		{"1740 24=700 48=" + tagsSaying("0", "give"), "", 3},
		{"1740 24=700 48=" + tagsSaying("0", "charge"), "", 3},
		{"1740 24=700 48=" + tagsSaying("0", "answer"), "", 3},
		{"1740 24=700 48=" + tagsSaying("0", "second"), "", 3},
		{"1740 24=700 48=" + tagsSaying("0", "Rule"), "", 3},
		{"1740 24=700 48=" + tagsSaying("0", "rule_"), "", 3},
		{"1740 24=701 48=" + tagsSaying("0", "rule"), "", 1},
		{"1740 48=" + tagsSaying("0", "rule"), "", 1},
		{"11100 2=1 4=000000000500 37=000000000001 49=840", "", 1},
		{"-1100 2=1 4=000000000500 37=000000000001 49=840", "", 1},
		{"110 2=1 4=000000000500 37=000000000001 49=840", "", 1},
		{"1100 4=000000000500 2=1 37=000000000001 49=840", "", 1},
		{"1100 2=1 2=1 4=000000000500 37=000000000001 49=840", "", 1},
		{"1100 2=1 4=000000000500 5=1 37=000000000001 49=840", "", 1},
		{"1644 24=0603 48=00010010", "", 1},
		{"1644 24= 48=00010010", "", 1},
	} {
		tellsLine(t, fromText(x.text), x.line, x.code)
	}
}

func TestSwitchLineOfEveryKindAndFunction(t *testing.T) {
	// All that any kind asks for is there.
	full := fromText("0 2=1 4=000000000005 24=000 25=4855 37=000000000001 48=" + tagsSaying("3", "rule") + " 49=840 93=4")
	known := map[[2]int]bool{}
	for _, row := range switchRows {
		x, _ := strconv.Atoi(row.function)
		known[[2]int{row.kind, x}] = true
	}
	done := 0
	ask := func(kind, function int) {
		m := asKind(withField(full, 24, fmt.Sprintf("%03d", function)), kind)
		_, code := askLine(t, m)
		want := 1
		if kind == 1100 || known[[2]int{kind, function}] {
			want = 0
			done++
		}
		if code != want {
			t.Errorf("kind %d with %d: %d, want %d", kind, function, code, want)
		}
	}
	for _, kind := range []int{0, 1, 100, 1099, 1100, 1101, 1110, 1240, 1241, 1442, 1443, 1644, 1645, 1740, 1741, 9999} {
		for function := range 1000 {
			ask(kind, function)
		}
	}
	for kind := range 10000 {
		for _, function := range []int{0, 200, 205, 450, 451, 603, 605, 700} {
			if kind%7 == 0 || known[[2]int{kind, function}] {
				ask(kind, function)
			}
		}
		if _, code := askLine(t, asKind(withoutField(full, 24), kind)); (code == 0) != (kind == 1100) || code > 1 {
			t.Errorf("kind %d without a function: %d", kind, code)
		}
	}
	if done < 1000+7 {
		t.Error("so few were done:", done)
	}
	for _, kind := range slices.Concat(edgeInts, fieldInts, []int{-1100, 11100, 1100 + 1<<32, 1240 + 1<<16, 1644 - 1<<32}) {
		if _, code := askLine(t, asKind(full, kind)); code != 1 {
			t.Errorf("kind %d: %d", kind, code)
		}
	}
}

// What a message does not ask for may be lacking.
func TestSwitchLineWithAFieldLacking(t *testing.T) {
	asked := map[string][]int{"auth": {2, 4, 37, 49}, "pay": {2, 4, 49, 93}, "charge": {4, 25}, "answer": {4}, "second": {4}}
	for i, m := range toldMessages() {
		words := strings.Split(toldLines[i].line, " ")
		name := words[0]
		if name == "act" {
			name = words[2]
		}
		for _, num := range knownNums {
			want := 0
			switch {
			case slices.Contains(asked[name], num):
				want = 2
			case num == 24 && name != "auth":
				want = 1
			case num == 48 && words[0] == "act":
				want = 3
			}
			line, code := askLine(t, withoutField(m, num))
			if code != want {
				t.Errorf("%q without field %d: %q, %d, want %d", toldLines[i].line, num, line, code, want)
			}
			if want == 0 && name != "rule" && line != toldLines[i].line {
				t.Errorf("%q without field %d: %q", toldLines[i].line, num, line)
			}
		}
		// With every set of its fields.
		for bits := range 1 << len(m.Fields) {
			some := impl.Message{Kind: m.Kind}
			for k, f := range m.Fields {
				if bits>>k&1 == 1 {
					some.Fields = append(some.Fields, f)
				}
			}
			askLine(t, some)
		}
	}
	if line, code := impl.SwitchLine(withoutField(fromText(toldLines[9].text), 4)); line != "act 8 rule 0 0" || code != 0 {
		t.Errorf("rule without an amount: %q, %d", line, code)
	}
}

// A faulty message is told by the first of its faults, whichever others it has.
func TestSwitchLineFirstFault(t *testing.T) {
	faultsOfFields := map[int][]string{
		2: {"", "0", "10000", "0000000000000000000", "9999999999999999999"}, 93: {"", "0", "10000", "99999999999"}, 37: {"            ", "00000 000001"},
	}
	faultsOfTags := []string{"", "x", "0001", tagsSaying(""), tagsSaying("x", "y"), tagsSaying("1234567890", "rule"), "0002004rule", "00020010" + "0001004rule"}
	for i, m := range toldMessages() {
		asksTags := strings.HasPrefix(toldLines[i].line, "act")
		var broken []impl.Message
		for _, num := range []int{2, 4, 25, 37, 49, 93} {
			if _, there := impl.FieldOf(m, num); !there || m.Kind == 1740 {
				continue
			}
			broken = append(broken, withoutField(m, num))
			for _, data := range faultsOfFields[num] {
				broken = append(broken, withField(m, num, data))
			}
		}
		for _, one := range broken {
			for _, tags := range faultsOfTags {
				both := withField(one, 48, tags)
				tellsLine(t, both, "", 2)
				for _, bad := range []impl.Message{asKind(both, both.Kind+1), asKind(both, both.Kind+10000), withField(both, 71, "1"), {Kind: both.Kind, Fields: append(slices.Clone(both.Fields), fieldOf(2, "1"))}} {
					tellsLine(t, bad, "", 1)
				}
				if both.Kind != 1100 {
					tellsLine(t, withField(both, 24, "999"), "", 1)
					tellsLine(t, withoutField(both, 24), "", 1)
				}
			}
		}
		for _, tags := range faultsOfTags {
			want, line := 0, toldLines[i].line
			if asksTags {
				want, line = 3, ""
			}
			tellsLine(t, withField(m, 48, tags), line, want)
			tellsLine(t, asKind(withField(m, 48, tags), 1), "", 1)
		}
	}
}

// Accounts at every number near the edges, with every number of noughts ahead that the field has room for.
func TestSwitchLineAccounts(t *testing.T) {
	pay := fromText(toldLines[1].text)
	for _, x := range slices.Concat(daysFrom(0, 1, 130), daysFrom(990, 1, 20), daysFrom(9985, 1, 40), []int{19999, 20001, 65536, 65537, 99999, 100000, 100001, 1 << 32, 1<<32 + 1}) {
		for _, field := range []struct{ num, size int }{{2, 19}, {93, 11}} {
			digits := strconv.Itoa(x)
			for noughts := 0; noughts+len(digits) <= field.size; noughts++ {
				data := strings.Repeat("0", noughts) + digits
				line, code := askLine(t, withField(pay, field.num, data))
				want := "pay 1 " + digits + " 840 500"
				if field.num == 2 {
					want = "pay " + digits + " 4 840 500"
				}
				if !within(x, 1, 9999) {
					want = ""
				}
				if line != want || (code == 0) != (want != "") {
					t.Errorf("account %q of field %d: %q, %d", data, field.num, line, code)
				}
			}
		}
	}
	for n := range 20 {
		for _, num := range []int{2, 93} {
			for _, digit := range []string{"0", "1", "9"} {
				askLine(t, withField(pay, num, strings.Repeat(digit, n)))
			}
		}
	}
	for b := range 256 {
		for _, num := range []int{2, 93} {
			for _, data := range []string{oneByte(b), "1" + oneByte(b), oneByte(b) + "1", "00" + oneByte(b) + "1"} {
				want := 1
				if within(b, '0', '9') {
					want = 0
				}
				if _, code := askLine(t, withField(pay, num, data)); code != want && data != "0" {
					t.Errorf("account %q of field %d: %d, want %d", data, num, code, want)
				}
			}
		}
	}
}

func TestSwitchLineRef(t *testing.T) {
	auth := fromText(toldLines[0].text)
	for n := range 15 {
		want := 1
		if n == 12 {
			want = 0
		}
		if _, code := askLine(t, withField(auth, 37, strings.Repeat("R", n))); code != want {
			t.Errorf("a ref of %d bytes: %d", n, code)
		}
		if _, code := askLine(t, withField(auth, 37, strings.Repeat(" ", n))); code != max(want, 2) && n == 12 || n != 12 && code != 1 {
			t.Errorf("a ref of %d blanks: %d", n, code)
		}
	}
	for at := range 12 {
		for b := range 256 {
			ref := strings.Repeat("R", at) + oneByte(b) + strings.Repeat("R", 11-at)
			line, code := askLine(t, withField(auth, 37, ref))
			switch {
			case b == 32 && (code != 2 || line != ""), !within(b, 32, 126) && (code != 1 || line != ""), within(b, 33, 126) && (code != 0 || line != "auth "+ref+" 1 840 500"):
				t.Errorf("ref %q: %q, %d", ref, line, code)
			}
		}
	}
}

// The numbers of fields 4, 25 and 49 stand in the line without noughts ahead.
func TestSwitchLineNumbers(t *testing.T) {
	auth, charge := fromText(toldLines[0].text), fromText(toldLines[4].text)
	for x := range 1000 {
		tellsLine(t, withField(auth, 49, fmt.Sprintf("%03d", x)), fmt.Sprintf("auth 000000000001 1 %d 500", x), 0)
	}
	for x := range 10000 {
		if x%3 == 0 || x < 200 || x > 9980 {
			tellsLine(t, withField(charge, 25, fmt.Sprintf("%04d", x)), fmt.Sprintf("act 3 charge 500 %d", x), 0)
		}
	}
	for i, m := range toldMessages() {
		if m.Kind == 1644 {
			continue
		}
		words := strings.Split(toldLines[i].line, " ")
		place := 4
		if words[0] == "act" {
			place = 3
		}
		for x := 1; x < 1000000000000; x *= 10 {
			for _, amount := range []int{x - 1, x, x + 1, 9*x + 9, 10*x - 1} {
				if amount > 999999999999 {
					continue
				}
				words[place] = strconv.Itoa(amount)
				tellsLine(t, withField(m, 4, fmt.Sprintf("%012d", amount)), strings.Join(words, " "), 0)
			}
		}
	}
}

func TestSwitchLineNumberOfTheTag(t *testing.T) {
	for i, m := range toldMessages() {
		words := strings.Split(toldLines[i].line, " ")
		if words[0] != "act" {
			continue
		}
		data, _ := impl.FieldOf(m, 48)
		list, _ := wantGetTags(data)
		saying := func(text string) impl.Message {
			tags, _ := wantTagSet(list, 1, text)
			put, _ := wantPutTags(tags)
			return withField(m, 48, put)
		}
		for size := range 30 {
			for _, noughts := range []int{0, 1, size / 2, size - 1, size} {
				if !within(noughts, 0, size) {
					continue
				}
				text := strings.Repeat("0", noughts) + strings.Repeat("7", size-noughts)
				words[1] = strings.TrimLeft(text, "0")
				if words[1] == "" {
					words[1] = "0"
				}
				line, code := askLine(t, saying(text))
				if within(size, 1, 9) && (code != 0 || line != strings.Join(words, " ")) || !within(size, 1, 9) && code != 3 {
					t.Errorf("tag 1 of %q: %q, %d", text, line, code)
				}
			}
		}
		for b := 32; b < 127; b++ {
			for _, text := range []string{oneByte(b), "1" + oneByte(b), oneByte(b) + "1", "12345678" + oneByte(b)} {
				if _, code := askLine(t, saying(text)); (code == 0) != within(b, '0', '9') || code != 0 && code != 3 {
					t.Errorf("tag 1 of %q: %d", text, code)
				}
			}
		}
		put, _ := wantPutTags(wantTagCut(list, 1))
		tellsLine(t, withField(m, 48, put), "", 3)
	}
}

func TestSwitchLineWordOfTheTag(t *testing.T) {
	verdicts := []string{"accept", "refuse", "rule", "close"}
	m := fromText("1740 4=000000000007 24=700")
	for _, word := range slices.Concat(actNames, stateWords, verdicts, []string{"", "act", "auth", "pay", "day", "0"}) {
		line, code := askLine(t, withField(m, 48, tagsSaying("0", word)))
		if slices.Contains(verdicts, word) && (code != 0 || line != "act 0 "+word+" 7 0") || !slices.Contains(verdicts, word) && code != 3 {
			t.Errorf("the word %q: %q, %d", word, line, code)
		}
	}
	for _, word := range verdicts {
		for _, near := range nearTexts(word) {
			if !isPlain(near) {
				continue
			}
			if _, code := askLine(t, withField(m, 48, tagsSaying("0", near))); (code == 0) != slices.Contains(verdicts, near) || code != 0 && code != 3 {
				t.Errorf("the word %q: %d", near, code)
			}
		}
	}
}

// Field 48 is cut off, changed and lengthened anywhere.
func TestSwitchLineOfNoTags(t *testing.T) {
	for i, m := range toldMessages() {
		data, there := impl.FieldOf(m, 48)
		if !there {
			continue
		}
		for at := range len(data) + 1 {
			if line, code := askLine(t, withField(m, 48, data[:at])); at < len(data) && (code != 3 || line != "") {
				t.Errorf("%q with field 48 of %q: %q, %d", toldLines[i].line, data[:at], line, code)
			}
			for b := 32; b < 127; b++ {
				askLine(t, withField(m, 48, data[:at]+oneByte(b)+data[at:]))
				if at < len(data) {
					askLine(t, withField(m, 48, data[:at]+oneByte(b)+data[at+1:]))
				}
			}
		}
		// The tag stands among others.
		for _, tags := range allTags() {
			if put, ok := wantPutTags(tags); ok {
				askLine(t, withField(m, 48, put))
			}
			put, ok := wantPutTags(slices.Concat([]impl.Tag{{Num: 1, Data: "7"}, {Num: 2, Data: "rule"}}, wantTagCut(wantTagCut(tags, 1), 2)))
			if !ok {
				continue
			}
			if _, code := askLine(t, withField(m, 48, put)); code != 0 {
				t.Errorf("with %d tags: %d", len(tags), code)
			}
		}
	}
}

func TestSwitchLineOfNoMessage(t *testing.T) {
	for _, m := range badMessages() {
		tellsLine(t, m, "", 1)
		for _, row := range switchRows {
			if within(m.Kind, 0, 9999) {
				tellsLine(t, asKind(m, row.kind), "", 1)
			}
		}
	}
	for _, m := range toldMessages() {
		for _, bad := range badMessages() {
			both := impl.Message{Kind: m.Kind, Fields: slices.Concat(m.Fields, bad.Fields)}
			if len(bad.Fields) > 0 {
				tellsLine(t, both, "", 1)
			}
		}
		for _, kind := range []int{-1, 10000, m.Kind + 10000, -m.Kind, leastOfInt, greatestInt, m.Kind + 1<<32} {
			tellsLine(t, asKind(m, kind), "", 1)
		}
		for k := range m.Fields {
			for _, wrong := range []impl.Field{{}, {Num: m.Fields[k].Num, Data: "x\x7f"}, {Num: -m.Fields[k].Num, Data: m.Fields[k].Data}, {Num: m.Fields[k].Num, Data: m.Fields[k].Data + "\x00"}, {Num: 129}} {
				bad := impl.Message{Kind: m.Kind, Fields: slices.Clone(m.Fields)}
				bad.Fields[k] = wrong
				tellsLine(t, bad, "", 1)
			}
		}
	}
	for _, m := range goodMessages() {
		askLine(t, m)
		for _, row := range switchRows {
			askLine(t, asKind(m, row.kind))
		}
	}
}

// messageFor is a message that tells a line, with noughts ahead here and there; false for lines that none tells.
func messageFor(line string, thrown *chance) (impl.Message, bool) {
	noughts := func(digits string, most int) string {
		return strings.Repeat("0", thrown.below(most-len(digits)+1)) + digits
	}
	m := impl.Message{}
	words := strings.Split(line, " ")
	switch {
	case authForm.MatchString(line):
		m = fromText("1100 2=" + noughts(words[2], 19) + fmt.Sprintf(" 4=%012s 37= 49=%03s", words[4], words[3]))
		m = withField(m, 37, words[1])
	case payForm.MatchString(line):
		m = fromText("1240 2=" + noughts(words[1], 19) + fmt.Sprintf(" 4=%012s 24=200 49=%03s 93=", words[4], words[3]) + noughts(words[2], 11))
	case actForm.MatchString(line) && words[2] != "expire":
		m = actMessage(words[2], words[3], words[4], noughts(words[1], 9))
	}
	return m, wantMessageOk(m) && m.Kind > 0
}

func actMessage(name, amount, reason, number string) impl.Message {
	functions := map[string]string{"ask": "1644 24=603", "give": "1644 24=605", "charge": "1442 24=450", "answer": "1240 24=205", "second": "1442 24=451"}
	text, known := functions[name]
	if !known {
		m := fromText("1740 24=700 48=" + tagsSaying(number, name))
		if amount != "0" {
			m = withField(m, 4, fmt.Sprintf("%012s", amount))
		}
		return m
	}
	m := withField(fromText(text), 48, tagsSaying(number))
	if name != "ask" && name != "give" {
		m = withField(m, 4, fmt.Sprintf("%012s", amount))
	}
	if name == "charge" {
		m = withField(m, 25, fmt.Sprintf("%04s", reason))
	}
	return m
}

// A line comes back from the message that tells it.
func TestLinesComeBackFromTheirMessages(t *testing.T) {
	thrown := chance(12)
	lines := []string{}
	for _, name := range actNames {
		if name == "expire" {
			continue
		}
		for _, n := range []int{0, 1, 9, 10, 149, 999999999} {
			amount, reason := thrown.of([]int{0, 1, 500, mostPaid}), 0
			if name == "ask" || name == "give" {
				amount = 0
			}
			if name == "charge" {
				reason = thrown.of([]int{0, 4855, 9999})
			}
			lines = append(lines, actLine(n, name, amount, reason))
		}
	}
	for n := range 200 {
		issuer, acquirer, amount := thrown.of([]int{1, 10, 9999}), thrown.of([]int{4, 100, 9999}), thrown.of([]int{0, 1, 500, 999999999999})
		lines = append(lines, authLine(n, issuer, thrown.of([]int{0, 36, 840}), amount), payLine(issuer, acquirer, thrown.of([]int{0, 36, 999}), amount))
	}
	for _, line := range lines {
		for range 5 {
			m, ok := messageFor(line, &thrown)
			if !ok {
				t.Fatalf("no message tells %q", line)
			}
			tellsLine(t, m, line, 0)
		}
	}
	for _, line := range []string{"day 9001", "act 0 expire 0 0"} {
		if m, ok := messageFor(line, &thrown); ok {
			t.Errorf("%q is told by %+v", line, m)
		}
	}
}

// storyMessages lead a payment to its ruling, with messages between that are not done.
func storyMessages() []impl.Message {
	var list []impl.Message
	for _, text := range []string{
		"1100 2=0001 4=000000000500 37=000000000001 49=840",
		"1240 2=1 4=000000000500 24=200 49=840 93=4",
		"1240 2=1 4=000000000500 24=200 49=840 93=4", // used
		"5",
		"1644 24=603 48=000100200",
		"1644 24=603 48=00010011", // no such case
		"1644 24=605 48=00010010",
		"1644 24=605 48=00010010", // given already
		"1442 4=000000000499 24=450 25=4837 48=00010010", // not the whole amount
		"1442 4=000000000500 24=450 25=4800 48=00010010", // no reason
		"1442 24=450 25=4837 48=00010010",
		"1442 4=000000000500 24=450 25=4837 48=0001001",
		"1442 4=000000000500 24=450 25=4837 48=00010010",
		"1240 4=000000000501 24=205 48=00010010", // more than the claim
		"1240 4=000000000400 24=205 48=00010010",
		"1442 4=000000000300 24=451 48=00010010",
		"1740 24=700 48=000100100002004rule", // not refused yet
		"1740 24=700 48=000100100002006refuse",
		"1740 4=000000000150 24=700 48=000100100002004rule",
		"1740 24=700 48=000100100002005close",            // closed
		"1100 2=1 4=000000000500 37=000000000001 49=841", // no currency
	} {
		list = append(list, fromText(text))
	}
	return list
}

func TestSwitchRunNamed(t *testing.T) {
	start, _ := impl.BookStart(9000, nil)
	b, rejects := askRun(t, start, storyMessages())
	want := []impl.Reject{{At: 2, Code: 13}, {At: 3, Code: 1}, {At: 5, Code: 15}, {At: 7, Code: 21}, {At: 8, Code: 22}, {At: 9, Code: 23}, {At: 10, Code: 2}, {At: 11, Code: 3}, {At: 13, Code: 22}, {At: 16, Code: 21}, {At: 19, Code: 21}, {At: 20, Code: 13}}
	if !slices.Equal(rejects, want) {
		t.Errorf("the rejects are %v, want %v", rejects, want)
	}
	if got := impl.BookText(b); got != "auth 000000000001 1 840 500\npay 1 4 840 500\nact 0 ask 0 0\nact 0 give 0 0\nact 0 charge 500 4837\nact 0 answer 400 0\nact 0 second 300 0\nact 0 refuse 0 0\nact 0 rule 150 0\n" {
		t.Errorf("the log is %q", got)
	}
	// 5.00 were paid and came back, 4.00 were answered for, 1.50 ruled, and half of the claim costs the acquirer the fee.
	if got := impl.LedgerText(b.Ledger); got != "1 840 -2.50;4 840 -497.50;9999 840 500.00" {
		t.Errorf("the books are %s", got)
	}
	if b.Today != 9000 || len(b.Cases) != 1 || b.Cases[0].State != 7 || b.Cases[0].Back != 250 || len(b.Auths) != 1 || !b.Auths[0].Used {
		t.Errorf("the book is %s", shortBook(b))
	}
	if again, n := impl.BookRead(9000, nil, impl.BookText(b)); n != 9 || !sameBook(again, b) {
		t.Errorf("read again it is %s", shortBook(again))
	}
}

func TestSwitchRunOfFewMessages(t *testing.T) {
	for i, b := range someBooks(t) {
		for _, list := range [][]impl.Message{nil, {}} {
			if got, rejects := askRun(t, b, list); !sameBook(got, b) || len(rejects) > 0 {
				t.Errorf("no messages make %s of book %d, %v", shortBook(got), i, rejects)
			}
		}
		for k, m := range storyMessages() {
			askRun(t, b, []impl.Message{m})
			askRun(t, b, []impl.Message{{Kind: 5}, m, m})
			if t.Failed() {
				t.Fatal("message", k, "to book", i)
			}
		}
	}
}

// A run is its beginning and then the rest of it.
func TestSwitchRunInTwo(t *testing.T) {
	start, _ := impl.BookStart(9000, nil)
	list := storyMessages()
	whole, rejects := askRun(t, start, list)
	for cut := range len(list) + 1 {
		b, first := askRun(t, start, list[:cut])
		b, second := askRun(t, b, list[cut:])
		for i := range second {
			second[i].At += cut
		}
		if !sameBook(b, whole) || !slices.Equal(append(first, second...), rejects) {
			t.Errorf("cut at %d it is %s, %v", cut, shortBook(b), append(first, second...))
		}
	}
}

// Every message that is not done has its Reject at its place.
func TestSwitchRunPlaces(t *testing.T) {
	start, _ := impl.BookStart(9000, nil)
	good := fromText(toldLines[0].text)
	bad := map[int]impl.Message{1: {Kind: 7}, 2: withoutField(good, 4), 3: fromText("1644 24=603"), 13: withField(good, 49, "999"), 15: fromText(toldLines[2].text)}
	for code, wrong := range bad {
		for bits := range 64 {
			var list []impl.Message
			var want []impl.Reject
			for at := range 6 {
				if bits>>at&1 == 1 {
					list = append(list, wrong)
					want = append(want, impl.Reject{At: at, Code: code})
				} else {
					list = append(list, withField(good, 37, refOf(at)))
				}
			}
			b, rejects := askRun(t, start, list)
			if !slices.Equal(rejects, want) || len(b.Auths) != 6-len(want) {
				t.Errorf("code %d at %06b: %v", code, bits, rejects)
			}
		}
	}
}

// authMessages are n messages of what is authorized, each with a ref of its own.
func authMessages(n int) []impl.Message {
	var list []impl.Message
	for i := range n {
		list = append(list, withField(fromText(toldLines[0].text), 37, refOf(i)))
	}
	return list
}

// The limits of the book hold for messages too, and what stands behind one that is refused is asked all the same.
func TestSwitchRunOfManyMessages(t *testing.T) {
	start, _ := impl.BookStart(9000, nil)
	b, rejects := askRun(t, start, authMessages(mostAuths+5))
	if len(b.Auths) != mostAuths || len(rejects) != 5 || rejects[0] != (impl.Reject{At: mostAuths, Code: 13}) {
		t.Errorf("%d are authorized: %v", len(b.Auths), rejects)
	}
	var pays []impl.Message
	for range mostAuths {
		pays = append(pays, fromText("1240 2=1 4=000000000500 24=200 49=840 93=4"))
	}
	b, rejects = askRun(t, b, append(pays, pays[0]))
	if len(b.Cases) != mostAuths || !slices.Equal(rejects, []impl.Reject{{At: mostAuths, Code: 13}}) {
		t.Errorf("%d are paid: %v", len(b.Cases), rejects)
	}
	full := impl.Book{Today: 9000, Auths: manyAuths(3), Cases: closedCases(mostCases - 1)}
	pay := fromText("1240 2=1 4=000000001000 24=200 49=840 93=4")
	a := full.Auths[0]
	pay = withField(withField(withField(pay, 2, fmt.Sprint(a.Issuer)), 49, fmt.Sprintf("%03d", a.Cur)), 4, fmt.Sprintf("%012d", a.Amount))
	full.Today = a.Day
	b, rejects = askRun(t, full, []impl.Message{pay, pay, {Kind: 5}})
	if len(b.Cases) != mostCases || len(rejects) == 0 || rejects[len(rejects)-1] != (impl.Reject{At: 2, Code: 1}) {
		t.Errorf("with one case less than MaxCases: %d cases, %v", len(b.Cases), rejects)
	}
	for _, n := range []int{mostLog - 2, mostLog - 1, mostLog, mostLog + 1} {
		room := max(0, mostLog-n)
		b, rejects := askRun(t, impl.Book{Today: 9000, Log: dayLog(n)}, append(authMessages(4), impl.Message{Kind: 5}))
		if len(b.Log) != max(n, mostLog) || len(rejects) != 5-room || rejects[0] != (impl.Reject{At: min(room, 4), Code: 12}) || rejects[len(rejects)-1] != (impl.Reject{At: 4, Code: 1}) {
			t.Errorf("with a log of %d lines: %d, %v", n, len(b.Log), rejects)
		}
	}
	long := make([]impl.Message, 3000)
	if b, rejects := impl.SwitchRun(start, long); !sameBook(b, start) || len(rejects) != 3000 || rejects[2999] != (impl.Reject{At: 2999, Code: 1}) {
		t.Errorf("of 3000 messages that are none %d are rejected", len(rejects))
	}
}

// someMessage is a message that is often done to the book as it is.
func (j *journal) someMessage(thrown *chance) impl.Message {
	for range 40 {
		if m, ok := messageFor(j.someLine(thrown), thrown); ok {
			if thrown.below(8) == 0 {
				return thrown.broken(m)
			}
			return m
		}
	}
	return impl.Message{}
}

// broken is the message with something that is lacking, changed or too much.
func (x *chance) broken(m impl.Message) impl.Message {
	at := x.below(len(m.Fields))
	f := m.Fields[at]
	switch x.below(8) {
	case 0:
		return withoutField(m, f.Num)
	case 1:
		return asKind(m, []int{1100, 1240, 1442, 1644, 1740, 1241, -1}[x.below(7)])
	case 2:
		return withField(m, 24, []string{"200", "205", "450", "451", "603", "605", "700", "000", "20"}[x.below(9)])
	case 3:
		return withField(m, 48, []string{"", "x", tagsSaying("1"), tagsSaying("0", "rule"), tagsSaying("0", "ask"), tagsSaying("1234567890"), tagsSaying("")}[x.below(7)])
	case 4:
		r := fieldRules[f.Num]
		return withField(m, f.Num, r.some(r.sizes()[x.below(len(r.sizes()))], x.below(50)))
	case 5:
		return impl.Message{Kind: m.Kind, Fields: append(slices.Clone(m.Fields), f)}
	case 6:
		return withField(m, 37, []string{"            ", "REF 00000001", "REF000000001"}[x.below(3)])
	}
	return messageOf([]int{1100, 1240, 1442, 1644, 1740}[x.below(5)], x.below(1<<len(knownNums)))
}

// someMessages are a list that is made while it is done, and the book that comes out of it.
func someMessages(b impl.Book, n int, thrown *chance) ([]impl.Message, impl.Book) {
	var list []impl.Message
	for range n {
		m := (&journal{book: b}).someMessage(thrown)
		b, _ = wantSwitchRun(b, []impl.Message{m})
		list = append(list, m)
	}
	return list, b
}

// Lists that chance makes, done to books that chance leads to, by themselves and as files.
func TestManyRuns(t *testing.T) {
	thrown := chance(120)
	codes := map[int]int{}
	lines := map[string]int{}
	offs := someOffLists()
	for n := range 60 {
		b, _ := impl.BookStart(thrown.of([]int{0, 9000, 9000, lastDay - 300}), offs[n%len(offs)])
		for range 8 {
			list, want := someMessages(b, thrown.below(30), &thrown)
			got, rejects := askRun(t, b, list)
			if !sameBook(got, want) {
				t.Fatalf("run %d makes %s, want %s", n, shortBook(got), shortBook(want))
			}
			askAsFile(t, b, list, got, rejects)
			for _, r := range rejects {
				codes[r.Code]++
			}
			for _, line := range got.Log[len(b.Log):] {
				words := strings.Split(line, " ")
				lines[words[0]+" "+words[2]]++
				lines[words[0]]++
			}
			b = got
			b, _ = wantBookDo(b, dayLine(b.Today+thrown.of([]int{0, 1, 2, 8, 30})))
			if thrown.below(4) == 0 {
				b, _ = wantExpire(b)
			}
		}
		if t.Failed() {
			t.Fatal("run", n)
		}
	}
	for _, code := range []int{1, 2, 3, 13, 15, 21, 22, 23, 24} {
		if codes[code] < 5 {
			t.Errorf("too few were rejected with %d: %v", code, codes)
		}
	}
	for _, line := range []string{"auth", "pay", "act ask", "act give", "act charge", "act answer", "act second", "act accept", "act refuse", "act rule", "act close"} {
		if lines[line] < 5 {
			t.Errorf("too few lines of %q were done: %v", line, lines)
		}
	}
}

// askAsFile wants of the list in a file what the list made; what is no file is left out of it.
func askAsFile(t *testing.T, b impl.Book, list []impl.Message, want impl.Book, wantRejects []impl.Reject) {
	t.Helper()
	file, ok := impl.Batch(list)
	if !ok {
		list = slices.DeleteFunc(slices.Clone(list), func(m impl.Message) bool { return !wantMessageOk(m) })
		want, wantRejects = wantSwitchRun(b, list)
		if file, ok = impl.Batch(list); !ok {
			return
		}
	}
	got, rejects, code := askFile(t, b, file)
	if code != 0 || !sameBook(got, want) || !slices.Equal(rejects, wantRejects) {
		t.Errorf("as a file: %d, %s, %v, want %s, %v", code, shortBook(got), rejects, shortBook(want), wantRejects)
	}
}

func TestSwitchRunToOddBooks(t *testing.T) {
	var list []impl.Message
	for _, text := range []string{
		"1100 2=1 4=000000000500 37=000000000001 49=840", "1240 2=1 4=000000001000 24=200 49=840 93=4", "1240 2=1 4=000000001000 24=200 49=840 93=1", "1240 2=1 4=000000001000 24=200 49=840 93=9999",
		"1644 24=603 48=00010010", "1442 4=000000010000 24=450 25=4855 48=00010010", "1240 4=000000010000 24=205 48=00010011", "1740 24=700 48=000100110002005close", "1740 24=700 48=000100100002005close", "1644 24=603 48=00010012", "1644 24=605 48=0001009999999999", "7",
	} {
		list = append(list, fromText(text))
	}
	file, ok := impl.Batch(list)
	if !ok {
		t.Fatal("the messages are no batch")
	}
	for i, b := range oddBooks() {
		got, rejects := askRun(t, b, list)
		if again, said, code := askFile(t, b, file); code != 0 || !sameBook(again, got) || !slices.Equal(said, rejects) {
			t.Errorf("as a file: %d, %s, %v", code, shortBook(again), said)
		}
		askFile(t, b, file[:1000])
		for _, m := range list {
			askRun(t, b, []impl.Message{m})
		}
		if t.Failed() {
			t.Fatal("book", i)
		}
	}
}

func TestSwitchFileNamed(t *testing.T) {
	start, _ := impl.BookStart(9000, nil)
	auth, pay := fromText(toldLines[0].text), fromText(toldLines[1].text)
	for _, x := range []struct {
		what    string
		list    []impl.Message
		log     []string
		rejects []impl.Reject
	}{
		{"none", nil, nil, nil},
		{"one", []impl.Message{auth}, []string{"auth 000000000001 1 840 500"}, nil},
		{"two", []impl.Message{auth, pay}, []string{"auth 000000000001 1 840 500", "pay 1 4 840 500"}, nil},
		{"the other way round", []impl.Message{pay, auth}, []string{"auth 000000000001 1 840 500"}, []impl.Reject{{At: 0, Code: 13}}},
		{"one of no kind between", []impl.Message{auth, {Kind: 5}, pay}, []string{"auth 000000000001 1 840 500", "pay 1 4 840 500"}, []impl.Reject{{At: 1, Code: 1}}},
		{"the first and the last of a file as messages", []impl.Message{fromText("1644 24=697"), auth, fromText("1644 4=000000000500 24=695 71=00000001")}, []string{"auth 000000000001 1 840 500"}, []impl.Reject{{At: 0, Code: 1}, {At: 2, Code: 1}}},
		{"a place of its own", []impl.Message{withField(auth, 71, "99999999")}, []string{"auth 000000000001 1 840 500"}, nil},
	} {
		file, ok := impl.Batch(x.list)
		if !ok {
			t.Fatal(x.what)
		}
		b, rejects, code := askFile(t, start, file)
		if code != 0 || !slices.Equal(b.Log, x.log) || !slices.Equal(rejects, x.rejects) {
			t.Errorf("%s: %d, %q, %v", x.what, code, b.Log, rejects)
		}
	}
	file, _ := impl.Batch(storyMessages())
	want, wantRejects := impl.SwitchRun(start, storyMessages())
	if b, rejects, code := askFile(t, start, file); code != 0 || !sameBook(b, want) || !slices.Equal(rejects, wantRejects) || len(rejects) != 12 {
		t.Errorf("the story as a file: %d, %s, %v", code, shortBook(b), rejects)
	}
}

// switchRecords are the records of a file of three messages that are done.
func switchRecords() []string {
	return []string{
		headText,
		packed(1100, fieldOf(2, "0001"), fieldOf(4, "000000000500"), fieldOf(37, "000000000001"), fieldOf(49, "840"), fieldOf(71, "00000002")),
		packed(1240, fieldOf(2, "1"), fieldOf(4, "000000000500"), fieldOf(24, "200"), fieldOf(49, "840"), fieldOf(71, "00000003"), fieldOf(93, "4")),
		packed(1644, fieldOf(24, "603"), fieldOf(48, "00010010"), fieldOf(71, "00000004")),
		tailText("1000", 3),
	}
}

func TestSwitchFileRefused(t *testing.T) {
	records := switchRecords()
	good := fileWith(records...)
	with := func(i int, record string) string {
		list := slices.Clone(records)
		list[i] = record
		return fileWith(list...)
	}
	for i, b := range []impl.Book{{Today: 9000}, handBook(t).book, dueBook(t).book, {}} {
		if _, _, code := askFile(t, b, good); code != 0 {
			t.Fatalf("the file as it is: %d", code)
		}
		for _, x := range []struct {
			what string
			file string
			code int
		}{
			{"no file", "", 1},
			{"a byte", "x", 1},
			{"one byte less", good[:len(good)-1], 1},
			{"one byte more", good + "@", 1},
			{"a block more", good + strings.Repeat("@", blockSize), 1},
			{"the file twice", good + good, 1},
			{"another end of a block", good[:len(good)-1] + "x", 1},
			{"a record that is no message", with(1, "x"), 2},
			{"a message with a byte less", with(2, records[2][:len(records[2])-1]), 2},
			{"a message with a byte more", with(2, records[2]+"x"), 2},
			{"no record", fileWith(), 3},
			{"the first alone", fileWith(records[0]), 3},
			{"another first", with(0, records[1]), 3},
			{"no first", fileWith(records[1:]...), 3},
			{"no last", fileWith(records[:4]...), 4},
			{"another sum", with(4, tailText("1001", 3)), 4},
			{"a lesser sum", with(4, tailText("999", 3)), 4},
			{"no sum", with(4, tailText("0", 3)), 4},
			{"another count", with(4, tailText("1000", 4)), 4},
			{"a lesser count", with(4, tailText("1000", 2)), 4},
			{"a message less", fileWith(records[0], records[1], records[2], records[4]), 4},
			{"a message twice", fileWith(records[0], records[1], records[1], records[2], records[3], records[4]), 4},
			{"two messages that change places", fileWith(records[0], records[2], records[1], records[3], records[4]), 4},
			{"a message without its place", with(3, packed(1644, fieldOf(24, "603"), fieldOf(48, "00010010"))), 4},
			{"another amount", with(1, packed(1100, fieldOf(2, "0001"), fieldOf(4, "000000000501"), fieldOf(37, "000000000001"), fieldOf(49, "840"), fieldOf(71, "00000002"))), 4},
			{"something behind the last", fileWith(append(slices.Clone(records), records[3])...), 4},
		} {
			got, rejects, code := askFile(t, b, x.file)
			if code != x.code || !sameBook(got, b) || len(rejects) > 0 {
				t.Errorf("%s to book %d: %d, %s, %v; want %d", x.what, i, code, shortBook(got), rejects, x.code)
			}
		}
	}
}

// A file is cut off and changed at every byte.
func TestSwitchFileCutOffOrChanged(t *testing.T) {
	b := handBook(t).book
	good := fileWith(switchRecords()...)
	for cut := range len(good) {
		if _, _, code := askFile(t, b, good[:cut]); code != impl.BatchFile {
			t.Errorf("cut off at %d: %d", cut, code)
		}
		for _, change := range []int{1, 16, 128} {
			file := good[:cut] + oneByte(int(good[cut])^change) + good[cut+1:]
			_, _, code := askFile(t, b, file)
			if code == 0 && !within(cut, len(headText)+4, 250) {
				t.Errorf("changed at %d the file is taken", cut)
			}
		}
	}
	long, ok := impl.Batch(slices.Repeat(storyMessages(), 9))
	if !ok || len(long) < 5*blockSize {
		t.Fatalf("the long file has %d bytes", len(long))
	}
	for cut := range len(long) {
		if cut%97 == 0 || cut%blockSize < 3 || cut%blockSize > blockSize-4 {
			if _, _, code := askFile(t, b, long[:cut]); code != impl.BatchFile {
				t.Errorf("the long file cut off at %d: %d", cut, code)
			}
			askFile(t, b, long[:cut]+oneByte(int(long[cut])^1)+long[cut+1:])
		}
	}
}

func TestSwitchFileOfAllBatches(t *testing.T) {
	start, _ := impl.BookStart(9000, nil)
	for i, list := range goodBatches() {
		file, ok := impl.Batch(list)
		if !ok {
			t.Fatal("batch", i)
		}
		want, wantRejects := impl.SwitchRun(start, list)
		if b, rejects, code := askFile(t, start, file); code != 0 || !sameBook(b, want) || !slices.Equal(rejects, wantRejects) {
			t.Errorf("batch %d: %d, %d rejects", i, code, len(rejects))
		}
	}
	most := mostRecords - 2
	file, ok := impl.Batch(authMessages(most))
	if b, rejects, code := askFile(t, start, file); !ok || code != 0 || len(b.Auths) != mostAuths || len(rejects) != most-mostAuths {
		t.Errorf("a full file: %d, %d are authorized", code, len(b.Auths))
	}
	for _, s := range smallFiles() {
		askFile(t, start, s)
	}
	for n := range 40 {
		askFile(t, start, someText(n*53, n))
		askFile(t, start, strings.Repeat(oneByte(n*6), blockSize))
	}
}

func TestTellNamed(t *testing.T) {
	for _, x := range []struct {
		c    impl.Case
		n    int
		want string
	}{
		{anyCase(0, 0, 0, -1), 0, "1644 4=000000000000 24=691 48=0001001000020" + "04open" + "0003004" + "0.00 49=840"},
		{anyCase(1, 0, 0, 30), 9, "1644 4=000000000000 24=691 48=0001001900020" + "05asked" + "0003004" + "0.00 49=840"},
		{anyCase(2, 0, 0, -1), 10, "1644 4=000000000000 24=691 48=00010021000020" + "05given" + "0003004" + "0.00 49=840"},
		{anyCase(3, 10000, 10000, 30), 99, "1644 4=000000010000 24=691 48=00010029900020" + "07charged" + "0003006" + "100.00 49=840"},
		{anyCase(4, 9999, 1, 30), 100, "1644 4=000000000001 24=691 48=000100310000020" + "08answered" + "0003005" + "99.99 49=840"},
		{anyCase(5, 1, 9999, 30), 999, "1644 4=000000009999 24=691 48=000100399900020" + "06second" + "0003004" + "0.01 49=840"},
		{anyCase(6, 10, 500, 30), 1000, "1644 4=000000000500 24=691 48=0001004100000020" + "06ruling" + "0003004" + "0.10 49=840"},
		{anyCase(7, 0, 123, -1), 9999, "1644 4=000000000123 24=691 48=0001004999900020" + "06closed" + "0003004" + "0.00 49=840"},
		{impl.Case{Issuer: 1, Acquirer: 4, Cur: 48, Amount: mostPaid, State: 3, Reason: 4831, Claim: mostPaid, Back: mostPaid, Due: 5}, 7, "1644 4=100000000000 24=691 48=0001001700020" + "07charged" + "0003013" + "100000000.000 49=048"},
		{impl.Case{Issuer: 1, Acquirer: 4, Cur: 392, Amount: 7, State: 3, Reason: 4831, Claim: 6, Back: 5, Due: 5}, 7, "1644 4=000000000005 24=691 48=0001001700020" + "07charged" + "0003001" + "6 49=392"},
		{impl.Case{Issuer: 1, Acquirer: 4, Cur: 36, Amount: 7, State: 3, Reason: 4831, Claim: 7, Back: 0, Due: 5}, 7, "1644 4=000000000000 24=691 48=0001001700020" + "07charged" + "0003004" + "0.07 49=036"},
	} {
		m, ok := askTell(t, x.c, x.n)
		if got := impl.MessageText(m); !ok || got != x.want {
			t.Errorf("Tell of %+v, %d is %q, want %q", x.c, x.n, got, x.want)
		}
		for _, n := range []int{-1, 10000} {
			if m, ok := askTell(t, x.c, n); ok || !isZeroMessage(m) {
				t.Errorf("Tell of number %d is %+v, %v", n, m, ok)
			}
		}
	}
}

func TestTellOfNumbers(t *testing.T) {
	for _, n := range slices.Concat(daysFrom(-3, 1, 10010), edgeInts, fieldInts, []int{1 << 32, 1<<32 + 5, -9999, 65536}) {
		if _, ok := askTell(t, anyCase(3, 4000, 3000, 30), n); ok != within(n, 0, 9999) {
			t.Errorf("number %d: %v", n, ok)
		}
	}
}

func TestTellOfCases(t *testing.T) {
	for _, cur := range ledgerCurrencies {
		for state := range 8 {
			for _, amount := range []int{1, 9, 10, 99, 100, 999, 1000, 1001, 123456789, mostPaid - 1, mostPaid} {
				for _, part := range []int{0, 1, amount / 3, amount / 2, amount - 1, amount} {
					c := anyCase(state, part, amount-part, 30)
					c.Cur, c.Amount = cur, amount
					if _, ok := askTell(t, c, amount%10000); !ok {
						t.Errorf("Tell of %+v is refused", c)
					}
				}
			}
		}
	}
	for _, c := range badCases() {
		for _, n := range []int{-1, 0, 7, 9999, 10000} {
			if m, ok := askTell(t, c, n); ok || !isZeroMessage(m) {
				t.Errorf("Tell of %+v, which is no case, is %+v", c, m)
			}
		}
	}
	for _, c := range allCases() {
		askTell(t, c, 150)
	}
	thrown := chance(77)
	for range 20000 {
		c := anyCase(thrown.below(8), 4000, 3000, 30)
		c.Copied = thrown.below(2) == 0
		for range thrown.below(3) {
			*caseFields(&c)[thrown.below(11)] = thrown.of(caseInts)
		}
		askTell(t, c, thrown.of(caseInts))
	}
}

// What is told is no message that the switch does, but may stand in a file.
func TestWhatIsToldIsNotDone(t *testing.T) {
	b := dueBook(t).book
	var list []impl.Message
	for n, c := range b.Cases {
		m, ok := askTell(t, c, n)
		if !ok {
			t.Fatalf("case %d is not told", n)
		}
		tellsLine(t, m, "", 1)
		list = append(list, m)
	}
	file, ok := impl.Batch(list)
	got, rejects, code := askFile(t, b, file)
	if !ok || code != 0 || !sameBook(got, b) || len(rejects) != len(list) {
		t.Errorf("what is told makes %s, %v, %d", shortBook(got), rejects, code)
	}
	back, _ := impl.ReadBatch(file)
	for n, m := range back {
		askToldOf(t, m, b.Cases[n], n)
	}
}

// anythingAsMessage is a message or nearly one.
func (x *chance) anythingAsMessage() impl.Message {
	m := fromText(toldLines[x.below(len(toldLines))].text)
	for range x.below(3) {
		if len(m.Fields) > 0 {
			m = x.broken(m)
		}
	}
	if x.below(10) == 0 {
		m.Kind = x.of(fieldInts)
	}
	return m
}

// Every function is asked with anything, and answers.
func TestAnyMessageIsAnswered(t *testing.T) {
	thrown := chance(31)
	ledgers := slices.DeleteFunc(allLedgers(), func(l impl.Ledger) bool { return len(l.Lines) > 20 })
	codes := map[int]int{}
	for range 6000 {
		b := anythingAsBook(&thrown, ledgers)
		var list []impl.Message
		for range thrown.below(5) {
			list = append(list, thrown.anythingAsMessage())
		}
		for _, m := range list {
			_, code := askLine(t, m)
			codes[code]++
		}
		askRun(t, b, list)
		file, _ := impl.Batch(list)
		askFile(t, b, file)
		for _, c := range b.Cases {
			askTell(t, c, thrown.of(caseInts))
		}
		if t.Failed() {
			t.Fatal("of", b, list)
		}
	}
	for code := range 4 {
		if codes[code] < 300 {
			t.Errorf("too few messages of code %d: %v", code, codes)
		}
	}
}

// switchCalls are the calls that answer a book, each with and without a refusal.
func switchCalls() []func(impl.Book) (impl.Book, []impl.Reject) {
	run := func(list []impl.Message) func(impl.Book) (impl.Book, []impl.Reject) {
		return func(b impl.Book) (impl.Book, []impl.Reject) { return impl.SwitchRun(b, list) }
	}
	file := func(s string) func(impl.Book) (impl.Book, []impl.Reject) {
		return func(b impl.Book) (impl.Book, []impl.Reject) {
			got, rejects, _ := impl.SwitchFile(b, s)
			return got, rejects
		}
	}
	story, _ := impl.Batch(storyMessages())
	none, _ := impl.Batch(nil)
	return []func(impl.Book) (impl.Book, []impl.Reject){
		run(nil), run(storyMessages()), run(toldMessages()), run(authMessages(3)), run([]impl.Message{{}, {Kind: 5}}),
		file(""), file("x"), file(story), file(none), file(story[:len(story)-1]), file(fileWith(headText)), file(fileWith("x")), file(fileWith(headText, tailText("1", 1))), file(fileWith(switchRecords()...)),
	}
}

func TestSwitchDoesNotWriteIntoBooks(t *testing.T) {
	for i, b := range someBooks(t) {
		room := withRoom(b)
		kept := cloneBook(allRoom(room))
		for k, call := range switchCalls() {
			got, rejects := call(room)
			want, wantRejects := call(cloneBook(b))
			if !sameBook(got, want) || !slices.Equal(rejects, wantRejects) {
				t.Errorf("call %d of book %d reads what stands behind its lists: %s, want %s", k, i, shortBook(got), shortBook(want))
			}
		}
		if !sameBook(allRoom(room), kept) {
			t.Errorf("book %d, or the room behind its lists, was written into", i)
		}
	}
}

func TestSwitchDoesNotWriteIntoMessages(t *testing.T) {
	start, _ := impl.BookStart(9000, nil)
	lists := [][]impl.Message{nil, storyMessages(), toldMessages(), authMessages(mostAuths + 2), goodMessages(), badMessages()}
	for i, list := range lists {
		room, kept := cloneMessages(list), cloneMessages(list)
		for range 2 {
			if got, _ := impl.SwitchRun(start, room[:len(list)]); len(got.Log) > len(list) {
				t.Errorf("list %d: what stands behind it is done", i)
			}
			for _, m := range room[:len(list)] {
				line, code := impl.SwitchLine(m)
				if want, wantCode := wantSwitchLine(m); line != want || code != wantCode {
					t.Errorf("list %d: %q, %d; want %q, %d", i, line, code, want, wantCode)
				}
			}
		}
		if !slices.EqualFunc(room, kept, sameWithRoom) {
			t.Errorf("list %d, its fields, or the room behind them, was written into", i)
		}
	}
}

// textsOfMessages are all data of a list.
func textsOfMessages(list []impl.Message) []string {
	var texts []string
	for _, m := range list {
		for _, f := range m.Fields {
			texts = append(texts, f.Data)
		}
	}
	return texts
}

func TestBooksOfTheSwitchAreNewMemory(t *testing.T) {
	for i, b := range someBooks(t) {
		for k, call := range switchCalls() {
			what := fmt.Sprintf("call %d of book %d", k, i)
			mine, kept := cloneBook(b), cloneBook(b)
			one, oneRejects := call(mine)
			two, twoRejects := call(mine)
			want, wantRejects := cloneBook(two), slices.Clone(twoRejects)
			if len(b.Log)+len(b.Auths) < 60 {
				texts := bookTexts(one)
				askTextsApart(t, what, texts, slices.Concat(bookTexts(mine), bookTexts(two)))
				for n := range texts {
					askTextsApart(t, what, texts[n:n+1], texts[n+1:])
				}
			}
			overwriteBook(one)
			for n := range oneRejects[:cap(oneRejects)] {
				oneRejects[:cap(oneRejects)][n] = impl.Reject{At: -1, Code: -1}
			}
			again, againRejects := call(mine)
			if !sameBook(mine, kept) || !sameBook(two, want) || !sameBook(again, want) || !slices.Equal(twoRejects, wantRejects) || !slices.Equal(againRejects, wantRejects) {
				t.Fatalf("%s: an answer that is changed changes another thing", what)
			}
			overwriteBook(mine)
			if !sameBook(two, want) {
				t.Fatalf("%s: a book that is changed changes an answer", what)
			}
		}
	}
}

func TestTextsOfTheSwitchAreNewMemory(t *testing.T) {
	start, _ := impl.BookStart(9000, nil)
	list := cloneMessages(append(storyMessages(), toldMessages()...))
	texts := textsOfMessages(list)
	b, _ := impl.SwitchRun(start, list)
	askTextsApart(t, "SwitchRun", bookTexts(b), texts)
	var lines []string
	for _, m := range list {
		for range 2 {
			line, _ := impl.SwitchLine(m)
			askTextsApart(t, "SwitchLine", []string{line}, append(texts, lines...))
			lines = append(lines, line)
		}
	}
	file := fileWith(switchRecords()...)
	b, _, code := impl.SwitchFile(start, file)
	if code != 0 || len(b.Log) != 3 {
		t.Fatal("the file is", code, b)
	}
	askTextsApart(t, "SwitchFile", bookTexts(b), []string{file})
	// The list that was handed in is changed behind the call.
	for i := range list {
		list[i] = impl.Message{}
	}
	if again, _ := impl.BookAll(9000, nil, b.Log); !sameBook(again, b) {
		t.Error("a list that is changed changes the book:", b.Log)
	}
}

func TestWhatIsToldIsNewMemory(t *testing.T) {
	for state := range 8 {
		c := anyCase(state, 4000, 3000, 30)
		one, _ := impl.Tell(c, 12)
		two, _ := impl.Tell(c, 12)
		want, _ := wantTell(c, 12)
		room := one.Fields[:cap(one.Fields)]
		for i := range room {
			room[i] = fieldOf(-1, "changed")
		}
		if three, _ := impl.Tell(c, 12); !sameMessage(two, want) || !sameMessage(three, want) {
			t.Errorf("two answers share memory: %+v", two)
		}
	}
}

// switchAnswers are the answers of every function, in one order.
func switchAnswers(books []impl.Book) []string {
	var list []string
	for _, m := range slices.Concat(storyMessages(), toldMessages(), goodMessages(), badMessages()) {
		line, code := impl.SwitchLine(m)
		list = append(list, line, strconv.Itoa(code))
	}
	for _, b := range books {
		for _, call := range switchCalls() {
			got, rejects := call(b)
			list = append(list, fmt.Sprint(got, rejects))
		}
		for n, c := range b.Cases {
			list = append(list, fmt.Sprint(impl.Tell(c, n)))
		}
		_, _, code := impl.SwitchFile(b, fileWith(switchRecords()...))
		list = append(list, strconv.Itoa(code))
	}
	return list
}

func TestTheSwitchAnswersTheSameAgain(t *testing.T) {
	books := someBooks(t)
	first := switchAnswers(books)
	for range 2 {
		if !slices.Equal(switchAnswers(books), first) {
			t.Fatal("asked again, another answer is given")
		}
	}
	same := make([]bool, 8)
	var all sync.WaitGroup
	for i := range same {
		all.Go(func() { same[i] = slices.Equal(switchAnswers(books), first) })
	}
	all.Wait()
	if slices.Contains(same, false) {
		t.Error("asked side by side, another answer is given")
	}
}

// Two books go on from one in two ways, and the one stays as it was.
func TestBooksOfTheSwitchAreNotKept(t *testing.T) {
	start, _ := impl.BookStart(9000, nil)
	one, _ := impl.SwitchRun(start, toldMessages()[:1])
	kept := cloneBook(one)
	pay := fromText(toldLines[1].text)
	for range 3 {
		a, _ := impl.SwitchRun(one, []impl.Message{pay})
		b, _ := impl.SwitchRun(one, []impl.Message{withField(pay, 93, "5")})
		if a.Cases[0].Acquirer != 4 || b.Cases[0].Acquirer != 5 || !sameBook(one, kept) || len(start.Log) > 0 {
			t.Error("two books that go on from one are", a, b)
		}
	}
	// A file that was refused is not kept either.
	impl.SwitchFile(one, fileWith(switchRecords()...)[:1000])
	if got, _ := impl.SwitchRun(one, nil); !sameBook(got, kept) {
		t.Error("behind a file that is refused the book is", got)
	}
}
