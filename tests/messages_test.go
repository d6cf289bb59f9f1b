package tests

import (
	"fmt"
	"slices"
	"strings"
	"testing"

	"loop.example/g00126/impl"
)

// A fieldRule is what the chapter says of one number: width is how many digits tell the length, 0 where it is just size.
type fieldRule struct {
	digits      bool
	size, width int
}

var fieldRules = map[int]fieldRule{
	2: {true, 19, 2}, 3: {true, 6, 0}, 4: {true, 12, 0}, 12: {true, 12, 0}, 24: {true, 3, 0}, 25: {true, 4, 0}, 49: {true, 3, 0}, 71: {true, 8, 0}, 93: {true, 11, 2},
	31: {false, 23, 2}, 37: {false, 12, 0}, 38: {false, 6, 0}, 42: {false, 15, 0}, 48: {false, 999, 3}, 72: {false, 999, 3},
}

var knownNums = []int{2, 3, 4, 12, 24, 25, 31, 37, 38, 42, 48, 49, 71, 72, 93}

// somePlain has n bytes of 32 .. 126; with n of 95 each of them.
func somePlain(n, first int) string {
	s := make([]byte, n)
	for i := range s {
		s[i] = 32 + byte((first+7*i)%95)
	}
	return string(s)
}

func isPlain(s string) bool {
	for _, b := range []byte(s) {
		if b < 32 || b > 126 {
			return false
		}
	}
	return true
}

func (r fieldRule) right(data string) bool {
	if r.digits && !areDigits(data) || !isPlain(data) {
		return false
	}
	return len(data) == r.size || r.width > 0 && len(data) < r.size
}

// some is data of n bytes of the kind that the field wants, whatever n is.
func (r fieldRule) some(n, first int) string {
	if r.digits {
		return someDigits(n, first)
	}
	return somePlain(n, first)
}

// sizes are the lengths that the field may have.
func (r fieldRule) sizes() []int {
	if r.width == 0 {
		return []int{r.size}
	}
	return daysFrom(0, 1, r.size+1)
}

func wantFieldOk(f impl.Field) bool {
	r, known := fieldRules[f.Num]
	return known && r.right(f.Data)
}

func wantMessageOk(m impl.Message) bool {
	last := -1
	for _, f := range m.Fields {
		if !wantFieldOk(f) || f.Num <= last {
			return false
		}
		last = f.Num
	}
	return within(m.Kind, 0, 9999)
}

// wantData is how one field is written.
func wantData(f impl.Field) string {
	r, put := fieldRules[f.Num], f.Data
	if r.digits {
		put, _ = wantPutDigits(f.Data)
	}
	if r.width > 0 {
		put = fmt.Sprintf("%0*d", r.width, len(f.Data)) + put
	}
	return put
}

func wantPack(m impl.Message) (string, bool) {
	if !wantMessageOk(m) {
		return "", false
	}
	var nums []int
	text := ""
	for _, f := range m.Fields {
		nums = append(nums, f.Num)
		text += wantData(f)
	}
	set, _ := wantPutSet(nums)
	return fmt.Sprintf("%04d", m.Kind) + set + text, true
}

// lengthsAhead tells what each text of two or three digits says.
var lengthsAhead = func() map[string]int {
	table := map[string]int{}
	for n := range 1000 {
		table[fmt.Sprintf("%03d", n)] = n
		if n < 100 {
			table[fmt.Sprintf("%02d", n)] = n
		}
	}
	return table
}()

// wantGot is the data that stands in s from place i on, and the place behind it; -1 when the field does not stand there.
func wantGot(s string, i int, r fieldRule) (string, int) {
	n := r.size
	if r.width > 0 {
		head, _ := pieceAt(s, i, r.width)
		says, ok := lengthsAhead[head]
		if !ok || says > r.size {
			return "", -1
		}
		n, i = says, i+r.width
	}
	if r.digits {
		return wantGetDigits(s, i, n)
	}
	if data, ok := pieceAt(s, i, n); ok && isPlain(data) {
		return data, i + n
	}
	return "", -1
}

func wantUnpack(s string) (impl.Message, int, int) {
	head, ok := pieceAt(s, 0, 4)
	if !ok || !areDigits(head) {
		return impl.Message{}, impl.MsgKind, 0
	}
	nums, at := wantGetSet(s, 4)
	if at < 0 {
		return impl.Message{}, impl.MsgSet, 4
	}
	m := impl.Message{Kind: wantNumOf(head)}
	for _, num := range nums {
		r, known := fieldRules[num]
		data, next := "", -1
		if known {
			data, next = wantGot(s, at, r)
		}
		if next < 0 {
			return impl.Message{}, impl.MsgField, num
		}
		m.Fields = append(m.Fields, impl.Field{Num: num, Data: data})
		at = next
	}
	if at != len(s) {
		return impl.Message{}, impl.MsgRest, at
	}
	return m, impl.MsgOk, 0
}

func wantText(m impl.Message) string {
	if !wantMessageOk(m) {
		return ""
	}
	words := []string{fmt.Sprintf("%04d", m.Kind)}
	for _, f := range m.Fields {
		words = append(words, fmt.Sprintf("%d=%s", f.Num, strings.Join(strings.Split(f.Data, " "), "_")))
	}
	return strings.Join(words, " ")
}

func sameMessage(a, b impl.Message) bool {
	return a.Kind == b.Kind && slices.Equal(a.Fields, b.Fields)
}

func isZeroMessage(m impl.Message) bool { return m.Kind == 0 && len(m.Fields) == 0 }

// cloneFields is a copy whose texts are copies too.
func cloneFields(fields []impl.Field) []impl.Field {
	list := slices.Clone(fields)
	for i := range list {
		list[i].Data = strings.Clone(list[i].Data)
	}
	return list
}

func askPack(t *testing.T, m impl.Message) {
	t.Helper()
	want, wantOk := wantPack(m)
	if got, ok := impl.PackMessage(m); got != want || ok != wantOk {
		t.Errorf("PackMessage(%#v) = %q, %v; want %q, %v", m, got, ok, want, wantOk)
	}
}

func askUnpack(t *testing.T, s string) {
	t.Helper()
	want, wantCode, wantAt := wantUnpack(s)
	got, code, at := impl.UnpackMessage(s)
	if !sameMessage(got, want) || code != wantCode || at != wantAt {
		t.Errorf("UnpackMessage(%q) = %#v, %d, %d; want %#v, %d, %d", s, got, code, at, want, wantCode, wantAt)
	}
	if code == impl.MsgOk {
		if put, ok := impl.PackMessage(got); !ok || put != s {
			t.Errorf("UnpackMessage(%q) = %#v, which packs as %q, %v", s, got, put, ok)
		}
	}
}

func askComesBack(t *testing.T, m impl.Message) string {
	t.Helper()
	s, ok := impl.PackMessage(m)
	if !ok {
		t.Fatalf("PackMessage(%#v) is refused", m)
	}
	got, code, at := impl.UnpackMessage(s)
	if !sameMessage(got, m) || code != impl.MsgOk || at != 0 {
		t.Fatalf("UnpackMessage(%q) = %#v, %d, %d; want %#v, 0, 0", s, got, code, at, m)
	}
	return s
}

func askWith(t *testing.T, m impl.Message, num int, data string) {
	t.Helper()
	want, wantOk := wantWith(m, num, data)
	if got, ok := impl.With(m, num, data); !sameMessage(got, want) || ok != wantOk {
		t.Errorf("With(%#v, %d, %q) = %#v, %v; want %#v, %v", m, num, data, got, ok, want, wantOk)
	}
}

// wantWith takes out what has that number, puts the new one behind all and sorts.
func wantWith(m impl.Message, num int, data string) (impl.Message, bool) {
	if !wantFieldOk(impl.Field{Num: num, Data: data}) || !wantMessageOk(m) {
		return m, false
	}
	list := slices.DeleteFunc(slices.Clone(m.Fields), func(f impl.Field) bool { return f.Num == num })
	list = append(list, impl.Field{Num: num, Data: data})
	slices.SortFunc(list, func(a, b impl.Field) int { return a.Num - b.Num })
	return impl.Message{Kind: m.Kind, Fields: list}, true
}

// messageOf has the known fields whose bits stand in bits, with data that fits.
func messageOf(kind, bits int) impl.Message {
	m := impl.Message{Kind: kind}
	for i, num := range knownNums {
		if bits>>i&1 == 1 {
			r := fieldRules[num]
			n := r.size
			if r.width > 0 {
				n = (kind + 3*i) % min(r.size+1, 40)
			}
			m.Fields = append(m.Fields, impl.Field{Num: num, Data: r.some(n, kind+i)})
		}
	}
	return m
}

// wholeMessage and wholeText are written by hand: all fields that are known.
func wholeMessage() impl.Message {
	return impl.Message{Kind: 1240, Fields: []impl.Field{
		{Num: 2, Data: "4111111111111111111"}, {Num: 3, Data: "123456"}, {Num: 4, Data: "000000001234"}, {Num: 12, Data: "261117093000"},
		{Num: 24, Data: "200"}, {Num: 25, Data: "4853"}, {Num: 31, Data: "REF 31"}, {Num: 37, Data: "ABC DEF 0001"}, {Num: 38, Data: "OK=12_"},
		{Num: 42, Data: "SHOP 0000000001"}, {Num: 48, Data: ""}, {Num: 49, Data: "978"}, {Num: 71, Data: "00000007"}, {Num: 72, Data: "~"}, {Num: 93, Data: "1234"},
	}}
}

const wholeText = "1240" + "\xf0\x10\x01\x82\x0c\x41\x80\x00\x03\x00\x00\x08\x00\x00\x00\x00" +
	"19\x04\x11\x11\x11\x11\x11\x11\x11\x11\x11" + "\x12\x34\x56" + "\x00\x00\x00\x00\x12\x34" + "\x26\x11\x17\x09\x30\x00" +
	"\x02\x00" + "\x48\x53" + "06REF 31" + "ABC DEF 0001" + "OK=12_" +
	"SHOP 0000000001" + "000" + "\x09\x78" + "\x00\x00\x00\x07" + "001~" + "04\x12\x34"

// goodMessages have fields in the first half of the set, in the second, in both and none.
func goodMessages() []impl.Message {
	list := []impl.Message{{}, {Kind: 9999}, {Kind: 1, Fields: []impl.Field{}}, wholeMessage()}
	for i := range knownNums {
		list = append(list, messageOf(1000+i, 1<<i))
	}
	for _, bits := range []int{0x0fff, 0x7000, 0x7fff, 0x4001, 0x1555, 0x2aaa, 0x6001, 0x1800} {
		list = append(list, messageOf(bits%10000, bits))
	}
	for _, num := range []int{48, 72} {
		list = append(list, impl.Message{Kind: 42, Fields: []impl.Field{{Num: num, Data: somePlain(999, 3)}}})
	}
	return append(list, impl.Message{Kind: 7, Fields: []impl.Field{{Num: 2, Data: ""}, {Num: 31, Data: ""}, {Num: 48, Data: ""}, {Num: 72, Data: ""}, {Num: 93, Data: ""}}})
}

// badMessages are each wrong in one thing, but for the last ones.
func badMessages() []impl.Message {
	a, b, c := impl.Field{Num: 3, Data: "000001"}, impl.Field{Num: 24, Data: "200"}, impl.Field{Num: 93, Data: "12"}
	list := []impl.Message{
		{Kind: 1, Fields: []impl.Field{b, a}}, {Kind: 1, Fields: []impl.Field{a, c, b}}, {Kind: 1, Fields: []impl.Field{a, a}},
		{Kind: 1, Fields: []impl.Field{a, b, b, c}}, {Kind: 1, Fields: []impl.Field{a, b, {Num: 24, Data: "201"}}}, {Kind: 1, Fields: []impl.Field{c, b, a}},
		{Kind: 1, Fields: []impl.Field{{}}}, {Kind: 1, Fields: []impl.Field{{Num: 1}}}, {Kind: 1, Fields: []impl.Field{a, {Num: 5, Data: "1"}, b}},
		{Kind: 1, Fields: []impl.Field{a, b, c, {Num: 128, Data: "1"}}}, {Kind: 1, Fields: []impl.Field{a, b, c, {Num: 129}}},
		{Kind: 1, Fields: []impl.Field{{Num: leastOfInt}, a}}, {Kind: 1, Fields: []impl.Field{a, {Num: greatestInt}}},
		{Kind: 1, Fields: []impl.Field{{Num: 3, Data: "00001"}, b}}, {Kind: 1, Fields: []impl.Field{a, {Num: 24, Data: "2000"}}}, {Kind: 1, Fields: []impl.Field{a, {Num: 24, Data: "20x"}, c}},
		{Kind: 1, Fields: []impl.Field{a, b, {Num: 93, Data: "123456789012"}}}, {Kind: 1, Fields: []impl.Field{a, {Num: 38, Data: "abc\x7fde"}}},
		{Kind: -1}, {Kind: 10000}, {Kind: leastOfInt}, {Kind: greatestInt}, {Kind: -1, Fields: []impl.Field{a, b}}, {Kind: 10000, Fields: []impl.Field{a, b}},
		{Kind: -1, Fields: []impl.Field{b, a}}, {Kind: 12345, Fields: []impl.Field{{Num: 5}, {Num: 5}}}, {Kind: 1, Fields: slices.Repeat([]impl.Field{a, b, c}, 400)},
	}
	return list
}

func TestCodesOfMessages(t *testing.T) {
	if impl.MsgOk != 0 || impl.MsgKind != 1 || impl.MsgSet != 2 || impl.MsgField != 3 || impl.MsgRest != 4 {
		t.Error("a code is another number")
	}
}

func TestFieldOkNamed(t *testing.T) {
	cases := []struct {
		num  int
		data string
		want bool
	}{
		{2, "", true}, {2, "4", true}, {2, "4111111111111111", true}, {2, "4111111111111111111", true}, {2, "41111111111111111111", false}, {2, "4111 1111", false}, {2, "x", false},
		{3, "000000", true}, {3, "00000", false}, {3, "0000000", false}, {3, "", false}, {3, "00000a", false}, {3, "-00001", false}, {3, "      ", false},
		{4, "000000001234", true}, {4, "999999999999", true}, {4, "00000001234", false}, {4, "0000000001234", false}, {4, "", false}, {4, "1234", false}, {4, "00000000123.", false},
		{12, "261117093000", true}, {12, "26111709300", false}, {12, "2611170930000", false}, {12, "999999999999", true},
		{24, "200", true}, {24, "20", false}, {24, "2000", false}, {24, "20 ", false}, {24, "", false},
		{25, "4853", true}, {25, "485", false}, {25, "48530", false}, {25, "0000", true},
		{31, "", true}, {31, " ", true}, {31, "12345678901234567890123", true}, {31, "123456789012345678901234", false}, {31, "~", true}, {31, "\x7f", false}, {31, "\x1f", false},
		{37, "REF 00000001", true}, {37, "            ", true}, {37, "REF 0000001", false}, {37, "REF 000000001", false}, {37, "", false}, {37, "REF\n00000001", false},
		{38, "abc123", true}, {38, "abc", false}, {38, "abc1234", false}, {38, "      ", true}, {38, "abc\x1f23", false}, {38, "abc\x7f23", false}, {38, "ab~ 23", true},
		{42, "SHOP 0000000001", true}, {42, "SHOP 000000001", false}, {42, "SHOP 00000000001", false},
		{48, "", true}, {48, "0001001a", true}, {48, strings.Repeat(" ", 999), true}, {48, strings.Repeat(" ", 1000), false}, {48, "a\tb", false}, {48, "é", false},
		{49, "978", true}, {49, "036", true}, {49, "36", false}, {49, "0978", false},
		{71, "00000001", true}, {71, "0000001", false}, {71, "000000001", false},
		{72, "", true}, {72, strings.Repeat("~", 999), true}, {72, strings.Repeat("~", 1000), false}, {72, "\x00", false}, {72, "\xff", false},
		{93, "", true}, {93, "12345678901", true}, {93, "123456789012", false}, {93, "1a", false},
		{0, "", false}, {1, "", false}, {5, "", false}, {5, "000000", false}, {-2, "", false}, {-3, "000000", false}, {64, "", false}, {128, "", false}, {129, "", false}, {130, "", false},
	}
	for _, c := range cases {
		if got := impl.FieldOk(impl.Field{Num: c.num, Data: c.data}); got != c.want {
			t.Errorf("FieldOk({%d, %q}) = %v", c.num, c.data, got)
		}
	}
}

func askFieldOk(t *testing.T, num int, data string) {
	t.Helper()
	f := impl.Field{Num: num, Data: data}
	if got, want := impl.FieldOk(f), wantFieldOk(f); got != want {
		t.Errorf("FieldOk(%#v) = %v", f, got)
	}
}

func TestFieldOkAtEveryLength(t *testing.T) {
	for _, num := range knownNums {
		for n := range 1003 {
			askFieldOk(t, num, someDigits(n, n))
			askFieldOk(t, num, somePlain(n, n))
			askFieldOk(t, num, strings.Repeat(" ", n))
		}
		askFieldOk(t, num, someDigits(100000, 0))
		askFieldOk(t, num, strings.Repeat("a", 65536))
	}
}

func TestFieldOkAsksEveryByte(t *testing.T) {
	for _, num := range knownNums {
		r := fieldRules[num]
		data := r.some(r.size, num)
		for i := range data {
			for _, b := range []int{0, 9, 10, 31, 32, 47, 48, 57, 58, 95, 97, 126, 127, 128, 176, 255} {
				askFieldOk(t, num, data[:i]+oneByte(b)+data[i+1:])
			}
		}
		for b := range 256 {
			askFieldOk(t, num, strings.Repeat(oneByte(b), r.size))
		}
	}
}

func TestFieldOkAtAnyNumber(t *testing.T) {
	nums := slices.Concat(daysFrom(-300, 1, 700), fieldInts, edgeInts)
	for _, num := range knownNums {
		nums = append(nums, num+1<<8, num+1<<16, num+1<<32, num-1<<32, -num)
	}
	for _, num := range nums {
		for _, n := range []int{0, 1, 2, 3, 4, 6, 8, 11, 12, 15, 19, 23, 999} {
			askFieldOk(t, num, someDigits(n, 1))
		}
	}
}

func TestMessageOk(t *testing.T) {
	for _, m := range goodMessages() {
		if !impl.MessageOk(m) {
			t.Errorf("MessageOk(%#v) is false", m)
		}
	}
	for _, m := range badMessages() {
		if impl.MessageOk(m) {
			t.Errorf("MessageOk(%#v) is true", m)
		}
	}
	for _, kind := range slices.Concat(fieldInts, edgeInts, []int{-10000, -9999, 9998, 9999, 10000, 10001, 1<<32 + 5}) {
		for _, m := range goodMessages() {
			m.Kind = kind
			if got := impl.MessageOk(m); got != within(kind, 0, 9999) {
				t.Errorf("MessageOk(%#v) = %v", m, got)
			}
		}
	}
}

// A fault is looked for at every place of the longest message.
func TestMessageOkAsksEveryField(t *testing.T) {
	whole := wholeMessage()
	for i := range whole.Fields {
		for _, num := range []int{leastOfInt, -1, 0, 1, 5, 94, 128, greatestInt} {
			m := impl.Message{Kind: whole.Kind, Fields: slices.Clone(whole.Fields)}
			m.Fields[i].Num = num
			if impl.MessageOk(m) {
				t.Errorf("number %d at place %d is taken", num, i)
			}
		}
		m := impl.Message{Kind: whole.Kind, Fields: slices.Clone(whole.Fields)}
		m.Fields[i].Data += "\x7f"
		if impl.MessageOk(m) {
			t.Errorf("wrong data at place %d is taken", i)
		}
		m.Fields = slices.Insert(slices.Clone(whole.Fields), i, whole.Fields[i])
		if impl.MessageOk(m) {
			t.Errorf("field %d is taken twice", whole.Fields[i].Num)
		}
		for j := range i {
			m.Fields = slices.Clone(whole.Fields)
			m.Fields[i], m.Fields[j] = m.Fields[j], m.Fields[i]
			if impl.MessageOk(m) {
				t.Errorf("fields at %d and %d are taken in each other's place", j, i)
			}
		}
	}
}

func TestFieldOf(t *testing.T) {
	nums := slices.Concat(daysFrom(-3, 1, 140), fieldInts, edgeInts)
	for _, m := range append(goodMessages(), badMessages()...) {
		for _, num := range nums {
			want, wantOk := "", false
			// The first of that number, whatever else is wrong with the message.
			for _, f := range slices.Backward(m.Fields) {
				if f.Num == num {
					want, wantOk = f.Data, true
				}
			}
			if got, ok := impl.FieldOf(m, num); got != want || ok != wantOk {
				t.Errorf("FieldOf(%#v, %d) = %q, %v; want %q, %v", m, num, got, ok, want, wantOk)
			}
		}
	}
}

func TestFieldOfNamed(t *testing.T) {
	m := wholeMessage()
	for num, want := range map[int]string{2: "4111111111111111111", 4: "000000001234", 38: "OK=12_", 48: "", 72: "~", 93: "1234"} {
		if got, ok := impl.FieldOf(m, num); !ok || got != want {
			t.Errorf("FieldOf(whole, %d) = %q, %v", num, got, ok)
		}
	}
	for _, num := range []int{leastOfInt, -2, 0, 1, 5, 94, 128, greatestInt} {
		if got, ok := impl.FieldOf(m, num); ok || got != "" {
			t.Errorf("FieldOf(whole, %d) = %q, %v", num, got, ok)
		}
	}
	if got, ok := impl.FieldOf(impl.Message{}, 0); ok || got != "" {
		t.Errorf("FieldOf of no fields = %q, %v", got, ok)
	}
}

func TestWithNamed(t *testing.T) {
	one, four, last := impl.Field{Num: 3, Data: "000001"}, impl.Field{Num: 24, Data: "200"}, impl.Field{Num: 72, Data: "end"}
	m := impl.Message{Kind: 1240, Fields: []impl.Field{one, four, last}}
	cases := []struct {
		num  int
		data string
		want []impl.Field
		ok   bool
	}{
		{2, "41", []impl.Field{{Num: 2, Data: "41"}, one, four, last}, true},
		{2, "", []impl.Field{{Num: 2}, one, four, last}, true},
		{3, "999999", []impl.Field{{Num: 3, Data: "999999"}, four, last}, true},
		{4, "000000000005", []impl.Field{one, {Num: 4, Data: "000000000005"}, four, last}, true},
		{24, "205", []impl.Field{one, {Num: 24, Data: "205"}, last}, true},
		{24, "200", []impl.Field{one, four, last}, true},
		{48, "a b", []impl.Field{one, four, {Num: 48, Data: "a b"}, last}, true},
		{72, "", []impl.Field{one, four, {Num: 72}}, true},
		{93, "7", []impl.Field{one, four, last, {Num: 93, Data: "7"}}, true},
		{24, "20", m.Fields, false},
		{24, "2000", m.Fields, false},
		{24, "20x", m.Fields, false},
		{24, "", m.Fields, false},
		{5, "", m.Fields, false},
		{0, "", m.Fields, false},
		{-1, "", m.Fields, false},
		{94, "1", m.Fields, false},
		{93, "123456789012", m.Fields, false},
	}
	for _, c := range cases {
		got, ok := impl.With(m, c.num, c.data)
		if ok != c.ok || !sameMessage(got, impl.Message{Kind: 1240, Fields: c.want}) {
			t.Errorf("With(m, %d, %q) = %#v, %v; want %#v, %v", c.num, c.data, got, ok, c.want, c.ok)
		}
	}
}

// A field that is put in is there, and every other one is as it was.
func TestWithPutsOneField(t *testing.T) {
	for _, m := range goodMessages() {
		for _, num := range knownNums {
			r := fieldRules[num]
			for _, n := range []int{0, 1, r.size - 1, r.size, r.size + 1} {
				data := r.some(n, n+num)
				askWith(t, m, num, data)
				got, ok := impl.With(m, num, data)
				if ok != wantFieldOk(impl.Field{Num: num, Data: data}) {
					t.Fatalf("With(%#v, %d, %q) answers %v", m, num, data, ok)
				}
				if !ok {
					continue
				}
				if put, has := impl.FieldOf(got, num); !has || put != data || !impl.MessageOk(got) {
					t.Errorf("field %d is %q, %v behind With", num, put, has)
				}
				for _, other := range knownNums {
					was, had := impl.FieldOf(m, other)
					is, has := impl.FieldOf(got, other)
					if other != num && (is != was || has != had) {
						t.Errorf("field %d was %q, %v and is %q, %v behind With of %d", other, was, had, is, has, num)
					}
				}
				askComesBack(t, got)
			}
		}
	}
}

// Whatever the order in which the fields are put in, the same message comes out.
func TestWithBuildsAMessage(t *testing.T) {
	whole := wholeMessage()
	for step := 1; step < 15; step++ {
		if step%3 == 0 || step%5 == 0 {
			continue
		}
		m, ok := impl.Message{Kind: whole.Kind}, true
		for i := range whole.Fields {
			f := whole.Fields[i*step%15]
			if m, ok = impl.With(m, f.Num, f.Data); !ok || len(m.Fields) != i+1 {
				t.Fatalf("field %d is refused, or another is lost", f.Num)
			}
		}
		if !sameMessage(m, whole) {
			t.Errorf("by steps of %d comes %#v", step, m)
		}
	}
}

func TestWithRefuses(t *testing.T) {
	for _, m := range badMessages() {
		for _, num := range knownNums {
			r := fieldRules[num]
			askWith(t, m, num, r.some(r.size, 0))
			if got, ok := impl.With(m, num, r.some(r.size, 0)); ok || !sameMessage(got, m) {
				t.Errorf("With(%#v, %d, ..) = %#v, %v", m, num, got, ok)
			}
		}
	}
	for _, m := range append(goodMessages(), badMessages()...) {
		for _, num := range slices.Concat(daysFrom(-3, 1, 140), fieldInts, edgeInts) {
			for _, data := range []string{"", "x", "000000", "\x00\x00", strings.Repeat("1", 1000)} {
				askWith(t, m, num, data)
			}
		}
	}
}

// The answers here are written by hand, lest both sides err alike.
func TestPackNamed(t *testing.T) {
	none := "\x00\x00\x00\x00\x00\x00\x00"
	cases := []struct {
		kind   int
		fields []impl.Field
		want   string
	}{
		{0, nil, "0000" + none + "\x00"},
		{7, []impl.Field{}, "0007" + none + "\x00"},
		{9999, nil, "9999" + none + "\x00"},
		{1, []impl.Field{{Num: 2}}, "0001\x40" + none + "00"},
		{1, []impl.Field{{Num: 2, Data: "7"}}, "0001\x40" + none + "01\x07"},
		{1, []impl.Field{{Num: 2, Data: "12"}}, "0001\x40" + none + "02\x12"},
		{1, []impl.Field{{Num: 2, Data: "1234567890123456789"}}, "0001\x40" + none + "19\x01\x23\x45\x67\x89\x01\x23\x45\x67\x89"},
		{1, []impl.Field{{Num: 2, Data: "123456789012345678"}}, "0001\x40" + none + "18\x12\x34\x56\x78\x90\x12\x34\x56\x78"},
		{12, []impl.Field{{Num: 3, Data: "123456"}}, "0012\x20" + none + "\x12\x34\x56"},
		{123, []impl.Field{{Num: 4, Data: "000000000100"}}, "0123\x10" + none + "\x00\x00\x00\x00\x01\x00"},
		{1234, []impl.Field{{Num: 12, Data: "991231235959"}}, "1234\x00\x10" + none[1:] + "\x99\x12\x31\x23\x59\x59"},
		{1234, []impl.Field{{Num: 24, Data: "697"}}, "1234\x00\x00\x01" + none[2:] + "\x06\x97"},
		{1234, []impl.Field{{Num: 25, Data: "4853"}}, "1234\x00\x00\x00\x80" + none[3:] + "\x48\x53"},
		{1234, []impl.Field{{Num: 31, Data: "a b"}}, "1234\x00\x00\x00\x02" + none[3:] + "03a b"},
		{1234, []impl.Field{{Num: 31, Data: "12345678901234567890123"}}, "1234\x00\x00\x00\x02" + none[3:] + "2312345678901234567890123"},
		{1234, []impl.Field{{Num: 37, Data: "            "}}, "1234\x00\x00\x00\x00\x08" + none[4:] + "            "},
		{1234, []impl.Field{{Num: 38, Data: "123456"}}, "1234\x00\x00\x00\x00\x04" + none[4:] + "123456"},
		{1234, []impl.Field{{Num: 42, Data: "SHOP 0000000001"}}, "1234\x00\x00\x00\x00\x00\x40" + none[5:] + "SHOP 0000000001"},
		{1234, []impl.Field{{Num: 48, Data: "0001001a"}}, "1234\x00\x00\x00\x00\x00\x01" + none[5:] + "0080001001a"},
		{1234, []impl.Field{{Num: 49, Data: "036"}}, "1234\x00\x00\x00\x00\x00\x00\x80" + none[6:] + "\x00\x36"},
		{1234, []impl.Field{{Num: 71, Data: "00000012"}}, "1234\x80" + none + "\x02" + none + "\x00\x00\x00\x12"},
		{1234, []impl.Field{{Num: 72}}, "1234\x80" + none + "\x01" + none + "000"},
		{1234, []impl.Field{{Num: 72, Data: strings.Repeat("x", 999)}}, "1234\x80" + none + "\x01" + none + "999" + strings.Repeat("x", 999)},
		{1234, []impl.Field{{Num: 93, Data: "12345678901"}}, "1234\x80" + none + "\x00\x00\x00\x08\x00\x00\x00\x00" + "11\x01\x23\x45\x67\x89\x01"},
		{1234, []impl.Field{{Num: 93, Data: "0012"}}, "1234\x80" + none + "\x00\x00\x00\x08\x00\x00\x00\x00" + "04\x00\x12"},
		{1644, []impl.Field{{Num: 24, Data: "697"}, {Num: 71, Data: "00000001"}}, "1644\x80\x00\x01" + none[2:] + "\x02" + none + "\x06\x97" + "\x00\x00\x00\x01"},
	}
	for _, c := range cases {
		m := impl.Message{Kind: c.kind, Fields: c.fields}
		if got, ok := impl.PackMessage(m); !ok || got != c.want {
			t.Errorf("PackMessage(%#v) = %q, %v; want %q, true", m, got, ok, c.want)
		}
		if got, code, at := impl.UnpackMessage(c.want); !sameMessage(got, m) || code != impl.MsgOk || at != 0 {
			t.Errorf("UnpackMessage(%q) = %#v, %d, %d", c.want, got, code, at)
		}
	}
}

func TestWholeMessage(t *testing.T) {
	m := wholeMessage()
	if got, ok := impl.PackMessage(m); !ok || got != wholeText {
		t.Errorf("PackMessage(whole) = %q, %v", got, ok)
	}
	if got, code, at := impl.UnpackMessage(wholeText); !sameMessage(got, m) || code != impl.MsgOk || at != 0 {
		t.Errorf("UnpackMessage(whole) = %#v, %d, %d", got, code, at)
	}
	want := "1240 2=4111111111111111111 3=123456 4=000000001234 12=261117093000 24=200 25=4853 31=REF_31 37=ABC_DEF_0001 38=OK=12_ 42=SHOP_0000000001 48= 49=978 71=00000007 72=~ 93=1234"
	if got := impl.MessageText(m); got != want {
		t.Errorf("MessageText(whole) = %q", got)
	}
}

func TestPackRefuses(t *testing.T) {
	for _, m := range badMessages() {
		if got, ok := impl.PackMessage(m); ok || got != "" {
			t.Errorf("PackMessage(%#v) = %q, %v", m, got, ok)
		}
	}
	for _, kind := range slices.Concat(fieldInts, edgeInts, []int{9999, 10000}) {
		for _, m := range goodMessages() {
			m.Kind = kind
			askPack(t, m)
		}
	}
	for _, num := range slices.Concat(daysFrom(-3, 1, 140), fieldInts, edgeInts) {
		for _, n := range []int{0, 3, 4, 6, 8, 12, 15} {
			askPack(t, impl.Message{Kind: 5, Fields: []impl.Field{{Num: num, Data: someDigits(n, 1)}}})
			askPack(t, impl.Message{Kind: 5, Fields: []impl.Field{{Num: 12, Data: someDigits(12, 1)}, {Num: num, Data: someDigits(n, 1)}}})
		}
	}
}

func TestEveryFieldComesBack(t *testing.T) {
	for _, num := range knownNums {
		r := fieldRules[num]
		for _, n := range r.sizes() {
			texts := []string{r.some(n, n), r.some(n, n+1), strings.Repeat("0", n), strings.Repeat("9", n)}
			if !r.digits {
				texts = append(texts, strings.Repeat(" ", n), strings.Repeat("~", n), strings.Repeat("_", n))
			}
			for _, data := range texts {
				m := impl.Message{Kind: n, Fields: []impl.Field{{Num: num, Data: data}}}
				askPack(t, m)
				askComesBack(t, m)
			}
		}
	}
}

func TestEverySetOfFieldsComesBack(t *testing.T) {
	for bits := range 1 << len(knownNums) {
		m := messageOf(bits%10000, bits)
		s := askComesBack(t, m)
		if want, _ := wantPack(m); s != want {
			t.Fatalf("PackMessage(%#v) = %q, want %q", m, s, want)
		}
	}
}

func TestUnpackNamed(t *testing.T) {
	none := "\x00\x00\x00\x00\x00\x00\x00"
	cases := []struct {
		s        string
		code, at int
	}{
		{"", impl.MsgKind, 0},
		{"1", impl.MsgKind, 0},
		{"124", impl.MsgKind, 0},
		{"12 4" + none + "\x00", impl.MsgKind, 0},
		{"-124" + none + "\x00", impl.MsgKind, 0},
		{"+124" + none + "\x00", impl.MsgKind, 0},
		{"124x" + none + "\x00", impl.MsgKind, 0},
		{"124:", impl.MsgKind, 0},
		{"/240", impl.MsgKind, 0},
		{"\x12\x40" + none + none, impl.MsgKind, 0},
		{"1240", impl.MsgSet, 4},
		{"1240\x00", impl.MsgSet, 4},
		{"1240" + none, impl.MsgSet, 4},
		{"1240" + none + "\x00", impl.MsgOk, 0},
		{"1240\x80" + none, impl.MsgSet, 4},
		{"1240\x80" + none + none, impl.MsgSet, 4},
		{"1240\x80" + none + "\x00" + none, impl.MsgSet, 4},
		{"1240\xc0" + none + "\x00" + none + "00", impl.MsgSet, 4},
		{"1240\x88" + none + "\x00" + none, impl.MsgSet, 4},
		{"1240" + none + "\x00\x00", impl.MsgRest, 12},
		{"1240" + none + "\x00 behind", impl.MsgRest, 12},
		{"12400" + none + "\x00", impl.MsgField, 3},
		{"1240\x08" + none, impl.MsgField, 5},
		{"1240\x08" + none + "x", impl.MsgField, 5},
		{"1240\x28" + none, impl.MsgField, 3},
		{"1240\x28" + none + "\x12\x34\x56", impl.MsgField, 5},
		{"1240\x18" + none + "\x12\x34\x56", impl.MsgField, 4},
		{"1240\x20" + none, impl.MsgField, 3},
		{"1240\x20" + none + "\x12\x34", impl.MsgField, 3},
		{"1240\x20" + none + "\x12\x34\x5a", impl.MsgField, 3},
		{"1240\x20" + none + "\x12\x34\x56\x78", impl.MsgRest, 15},
		{"1240\x40" + none, impl.MsgField, 2},
		{"1240\x40" + none + "0", impl.MsgField, 2},
		{"1240\x40" + none + "00", impl.MsgOk, 0},
		{"1240\x40" + none + "000", impl.MsgRest, 14},
		{"1240\x40" + none + "01", impl.MsgField, 2},
		{"1240\x40" + none + "01\x07", impl.MsgOk, 0},
		{"1240\x40" + none + "01\x17", impl.MsgField, 2},
		{"1240\x40" + none + "02\x17", impl.MsgOk, 0},
		{"1240\x40" + none + "0a\x17", impl.MsgField, 2},
		{"1240\x40" + none + "-1\x17", impl.MsgField, 2},
		{"1240\x40" + none + "19\x01" + strings.Repeat("\x23", 9), impl.MsgOk, 0},
		{"1240\x40" + none + "19\x11" + strings.Repeat("\x23", 9), impl.MsgField, 2},
		{"1240\x40" + none + "20" + strings.Repeat("\x23", 10), impl.MsgField, 2},
		{"1240\x40" + none + "99\x03" + strings.Repeat("\x23", 49), impl.MsgField, 2},
		{"1240\x00\x00\x01" + none[2:] + "\x02\x00", impl.MsgOk, 0},
		{"1240\x00\x00\x01" + none[2:] + "\x12\x00", impl.MsgField, 24},
		{"1240\x00\x00\x00\x02" + none[3:] + "23" + strings.Repeat("x", 23), impl.MsgOk, 0},
		{"1240\x00\x00\x00\x02" + none[3:] + "24" + strings.Repeat("x", 24), impl.MsgField, 31},
		{"1240\x00\x00\x00\x02" + none[3:] + "02a\x7f", impl.MsgField, 31},
		{"1240\x00\x00\x00\x02" + none[3:] + "02a\x1f", impl.MsgField, 31},
		{"1240\x00\x00\x00\x02" + none[3:] + "02~ ", impl.MsgOk, 0},
		{"1240\x00\x00\x00\x00\x04" + none[4:] + "abc12", impl.MsgField, 38},
		{"1240\x00\x00\x00\x00\x04" + none[4:] + "abc\n23", impl.MsgField, 38},
		{"1240\x00\x00\x00\x00\x04" + none[4:] + "abc123", impl.MsgOk, 0},
		{"1240\x00\x00\x00\x00\x04" + none[4:] + "abc1234", impl.MsgRest, 18},
		{"1240\x00\x00\x00\x00\x00\x01" + none[5:] + "999" + strings.Repeat("x", 999), impl.MsgOk, 0},
		{"1240\x00\x00\x00\x00\x00\x01" + none[5:] + "999" + strings.Repeat("x", 998), impl.MsgField, 48},
		{"1240\x00\x00\x00\x00\x00\x01" + none[5:] + "999" + strings.Repeat("x", 1000), impl.MsgRest, 1014},
		{"1240\x80" + none + none + "\x01", impl.MsgField, 128},
		{"1240\x80" + none + "\x80" + none, impl.MsgField, 65},
		{"1240\x80" + none + "\x00\x00\x00\x08\x00\x00\x00\x00" + "11\x01\x23\x45\x67\x89\x01", impl.MsgOk, 0},
		{"1240\x80" + none + "\x00\x00\x00\x08\x00\x00\x00\x00" + "12\x11\x23\x45\x67\x89\x01", impl.MsgField, 93},
		{"1240\x80" + none + "\x00\x00\x00\x08\x00\x00\x00\x00" + "11\x01\x23\x45\x67\x89\x01\x00", impl.MsgRest, 28},
		// Both a field and what stands behind are wrong; a set and a kind are.
		{"1240\x28" + none + "\xff\xff\xff\xff\xff", impl.MsgField, 3},
		{"124x\x80", impl.MsgKind, 0},
		{"1240\xff\xff", impl.MsgSet, 4},
	}
	for _, c := range cases {
		m, code, at := impl.UnpackMessage(c.s)
		if code != c.code || at != c.at {
			t.Errorf("UnpackMessage(%q) = %#v, %d, %d; want %d, %d", c.s, m, code, at, c.code, c.at)
		}
		if code != impl.MsgOk && !isZeroMessage(m) {
			t.Errorf("UnpackMessage(%q) = %#v beside code %d", c.s, m, code)
		}
		askUnpack(t, c.s)
	}
}

func TestUnpackCutOff(t *testing.T) {
	for _, m := range goodMessages() {
		s, _ := impl.PackMessage(m)
		for cut := range s {
			wantCode, wantAt := cutFault(m, cut)
			got, code, at := impl.UnpackMessage(s[:cut])
			if !isZeroMessage(got) || code != wantCode || at != wantAt {
				t.Fatalf("%d bytes of %q: %#v, %d, %d; want %d, %d", cut, s, got, code, at, wantCode, wantAt)
			}
		}
		for _, more := range append(behinds, s, " ") {
			wantCode, wantAt := impl.MsgRest, len(s)
			if more == "" {
				wantCode, wantAt = impl.MsgOk, 0
			}
			got, code, at := impl.UnpackMessage(s + more)
			if code != wantCode || at != wantAt || more != "" && !isZeroMessage(got) {
				t.Fatalf("%q ahead of %q: %#v, %d, %d; want %d, %d", s, more, got, code, at, wantCode, wantAt)
			}
		}
	}
}

// cutFault tells by the lengths of the pieces alone what is wrong with the first cut bytes of m.
func cutFault(m impl.Message, cut int) (int, int) {
	end := 12
	if n := len(m.Fields); n > 0 && m.Fields[n-1].Num > 64 {
		end = 20
	}
	if cut < 4 {
		return impl.MsgKind, 0
	}
	if cut < end {
		return impl.MsgSet, 4
	}
	for _, f := range m.Fields {
		end += len(wantData(f))
		if cut < end {
			return impl.MsgField, f.Num
		}
	}
	return impl.MsgOk, 0
}

func TestUnpackWithOneByteChanged(t *testing.T) {
	for _, m := range goodMessages() {
		s, _ := impl.PackMessage(m)
		for i := range s {
			bytes := daysFrom(0, 1, 256)
			if i > 200 {
				bytes = []int{0, 31, 32, 48, 126, 127, 128, 255}
			}
			for _, b := range bytes {
				askUnpack(t, s[:i]+oneByte(b)+s[i+1:])
			}
		}
	}
}

func TestUnpackWithAByteMoreOrFewer(t *testing.T) {
	for _, m := range goodMessages() {
		s, _ := impl.PackMessage(m)
		for i := range s {
			askUnpack(t, s[:i]+s[i+1:])
			for _, b := range []int{0, 1, 32, 48, 49, 57, 127, 128, 255} {
				askUnpack(t, s[:i]+oneByte(b)+s[i:])
			}
		}
	}
}

// A field that is not known is told even where its bytes could be another's, and a fault of an earlier field goes ahead of it.
func TestUnpackFieldsNotKnown(t *testing.T) {
	for num := 2; num <= 128; num++ {
		if _, known := fieldRules[num]; known {
			continue
		}
		for _, fields := range [][]impl.Field{nil, {{Num: 2, Data: "123"}}, {{Num: 93, Data: "12"}}, wholeMessage().Fields} {
			nums, text, broken := []int{num}, "", 0
			for _, f := range fields {
				nums = append(nums, f.Num)
				text += wantData(f)
				if f.Num < num && broken == 0 {
					broken = f.Num
				}
			}
			slices.Sort(nums)
			set, _ := wantPutSet(nums)
			for _, behind := range []string{"", "00", "000", "0000000000000000", "\x00\x00\x00\x00\x00\x00"} {
				got, code, at := impl.UnpackMessage("1240" + set + text + behind)
				if !isZeroMessage(got) || code != impl.MsgField || at != num {
					t.Errorf("with field %d: %#v, %d, %d", num, got, code, at)
				}
			}
			if broken > 0 {
				if _, code, at := impl.UnpackMessage("1240" + set + "\xff" + text); code != impl.MsgField || at != broken {
					t.Errorf("with field %d and %d wrong: %d, %d", num, broken, code, at)
				}
			}
		}
	}
}

func TestUnpackLengthsAhead(t *testing.T) {
	for _, num := range []int{2, 31, 48, 72, 93} {
		r := fieldRules[num]
		set, _ := wantPutSet([]int{num})
		limit := 100
		if r.width == 3 {
			limit = 1000
		}
		for n := range limit {
			text := someDigits(n, n)
			if r.digits {
				text, _ = wantPutDigits(text)
			}
			s := "0000" + set + fmt.Sprintf("%0*d", r.width, n) + text
			_, code, at := impl.UnpackMessage(s)
			if n <= r.size && (code != impl.MsgOk || at != 0) || n > r.size && (code != impl.MsgField || at != num) {
				t.Errorf("field %d of %d: %d, %d", num, n, code, at)
			}
			askUnpack(t, s)
			askUnpack(t, s+"0")
			askUnpack(t, s[:len(s)-1])
		}
		for a := range 256 {
			for b := range 256 {
				askUnpack(t, "0000"+set+oneByte(a)+oneByte(b)+"0000000")
			}
		}
	}
}

func TestUnpackAnything(t *testing.T) {
	for a := range 256 {
		for b := range 256 {
			askUnpack(t, oneByte(a)+oneByte(b)+"40\x60\x00\x00\x00\x00\x00\x00\x0001\x01\x12\x34\x56")
			askUnpack(t, "12"+oneByte(a)+oneByte(b)+"\x60\x00\x00\x00\x00\x00\x00\x0001\x01\x12\x34\x56")
			askUnpack(t, "1240"+oneByte(a)+oneByte(b)+"\x00\x00\x00\x00\x00\x0001\x01\x12\x34\x56"+strings.Repeat("0", a%40))
		}
	}
	for n := range 60 {
		for first := range 256 {
			askUnpack(t, someText(n, first))
			askUnpack(t, "0100"+someText(n, first))
			askUnpack(t, "0100\x70\x10\x01\x82\x0c\x41\x80\x00"+someText(n, first))
		}
	}
	askUnpack(t, strings.Repeat("0", 100000))
	askUnpack(t, strings.Repeat("\xff", 100000))
}

func TestMessageTextNamed(t *testing.T) {
	cases := []struct {
		m    impl.Message
		want string
	}{
		{impl.Message{}, "0000"},
		{impl.Message{Kind: 7}, "0007"},
		{impl.Message{Kind: 9999}, "9999"},
		{impl.Message{Kind: -1}, ""},
		{impl.Message{Kind: 10000}, ""},
		{impl.Message{Kind: 1, Fields: []impl.Field{{Num: 2}}}, "0001 2="},
		{impl.Message{Kind: 1, Fields: []impl.Field{{Num: 2, Data: "007"}, {Num: 93, Data: "0"}}}, "0001 2=007 93=0"},
		{impl.Message{Kind: 1240, Fields: []impl.Field{{Num: 37, Data: " a  b   c   "}}}, "1240 37=_a__b___c___"},
		{impl.Message{Kind: 1240, Fields: []impl.Field{{Num: 38, Data: "      "}}}, "1240 38=______"},
		{impl.Message{Kind: 1240, Fields: []impl.Field{{Num: 38, Data: "_ _ =~"}}}, "1240 38=____=~"},
		{impl.Message{Kind: 1240, Fields: []impl.Field{{Num: 72, Data: " "}}}, "1240 72=_"},
		{impl.Message{Kind: 1240, Fields: []impl.Field{{Num: 72, Data: "a\tb"}}}, ""},
		{impl.Message{Kind: 1240, Fields: []impl.Field{{Num: 5, Data: "a"}}}, ""},
	}
	for _, c := range cases {
		if got := impl.MessageText(c.m); got != c.want {
			t.Errorf("MessageText(%#v) = %q, want %q", c.m, got, c.want)
		}
	}
}

func TestMessageText(t *testing.T) {
	list := append(goodMessages(), badMessages()...)
	for _, kind := range slices.Concat(fieldInts, edgeInts, []int{9999, 10000}) {
		list = append(list, impl.Message{Kind: kind, Fields: []impl.Field{{Num: 31, Data: "a b"}}})
	}
	for bits := 0; bits < 1<<len(knownNums); bits += 7 {
		list = append(list, messageOf(bits%10000, bits))
	}
	for _, m := range list {
		if got, want := impl.MessageText(m), wantText(m); got != want {
			t.Errorf("MessageText(%#v) = %q, want %q", m, got, want)
		}
	}
}

func TestMessageIsNotWrittenInto(t *testing.T) {
	for _, m := range append(goodMessages(), badMessages()...) {
		n := len(m.Fields)
		room := append(cloneFields(m.Fields), impl.Field{Num: 71, Data: "00000009"}, impl.Field{Num: -5, Data: "kept"}, impl.Field{}, impl.Field{Num: 3, Data: "000000"})
		kept := cloneFields(room)
		m.Fields = room[:n]
		for range 2 {
			impl.MessageOk(m)
			impl.PackMessage(m)
			impl.MessageText(m)
			for _, num := range append(knownNums, -1, 0, 5, 128) {
				impl.FieldOf(m, num)
				for _, size := range []int{0, 3, 4, 6, 8, 11, 12, 15} {
					impl.With(m, num, someDigits(size, 1))
				}
			}
		}
		if !slices.Equal(room, kept) {
			t.Errorf("%#v was written into: %#v", kept[:n], room)
		}
	}
}

// What With answers may be changed without a change in what it was handed, and the other way round.
func TestWithIsNewMemory(t *testing.T) {
	for _, m := range append(goodMessages(), badMessages()...) {
		m.Fields = cloneFields(m.Fields)
		kept := cloneFields(m.Fields)
		for _, num := range append(knownNums, 5) {
			r := fieldRules[num]
			data := r.some(r.size, num)
			one, ok := impl.With(m, num, data)
			two, _ := impl.With(m, num, data)
			for _, f := range one.Fields {
				if shares(f.Data, data) {
					t.Errorf("field %d shares memory with what was put in", f.Num)
				}
				for _, g := range slices.Concat(m.Fields, two.Fields) {
					if shares(f.Data, g.Data) {
						t.Errorf("field %d shares memory", f.Num)
					}
				}
			}
			for i := range one.Fields {
				one.Fields[i] = impl.Field{Num: -1, Data: "changed"}
			}
			one.Fields = append(one.Fields, impl.Field{Num: -2}, impl.Field{Num: -3})
			want, wantOk := wantWith(m, num, data)
			if ok != wantOk || !sameMessage(two, want) || !slices.Equal(m.Fields, kept) {
				t.Fatalf("With(%#v, %d, %q): an answer that is changed changes another thing", m, num, data)
			}
		}
	}
}

func TestUnpackIsNewMemory(t *testing.T) {
	for _, m := range goodMessages() {
		s, _ := impl.PackMessage(m)
		one, _, _ := impl.UnpackMessage(s)
		two, _, _ := impl.UnpackMessage(s)
		for _, f := range one.Fields {
			if len(f.Data) > 1 && (shares(f.Data, s) || slices.ContainsFunc(two.Fields, func(g impl.Field) bool { return shares(f.Data, g.Data) })) {
				t.Errorf("field %d shares memory", f.Num)
			}
		}
		for i := range one.Fields {
			one.Fields[i] = impl.Field{Num: -1, Data: "changed"}
		}
		one.Fields = append(one.Fields, impl.Field{Num: -2})
		if again, code, at := impl.UnpackMessage(s); !sameMessage(two, m) || !sameMessage(again, m) || code != impl.MsgOk || at != 0 {
			t.Errorf("two answers of %q share memory", s)
		}
	}
}

func TestTextsOfMessagesAreNewMemory(t *testing.T) {
	for _, m := range goodMessages() {
		put, _ := impl.PackMessage(m)
		text := impl.MessageText(m)
		for _, f := range m.Fields {
			got, _ := impl.FieldOf(m, f.Num)
			if shares(put, f.Data) || shares(text, f.Data) || shares(got, f.Data) {
				t.Errorf("field %d shares memory", f.Num)
			}
		}
	}
}

// Nothing of a refused text is left for the next one, nor of a message for the next.
func TestMessagesAreNotKept(t *testing.T) {
	for _, bad := range []string{"", "12", "1240", wholeText[:40], wholeText + "x"} {
		if m, code, _ := impl.UnpackMessage(bad); code == impl.MsgOk || !isZeroMessage(m) {
			t.Errorf("UnpackMessage(%q) = %#v, %d", bad, m, code)
		}
		if m, code, at := impl.UnpackMessage(wholeText); code != impl.MsgOk || at != 0 || !sameMessage(m, wholeMessage()) {
			t.Errorf("behind %q the whole message is %#v, %d, %d", bad, m, code, at)
		}
	}
	m := impl.Message{Kind: 1, Fields: []impl.Field{{Num: 2, Data: "12"}}}
	first, _ := impl.PackMessage(m)
	m.Fields[0].Data = "34"
	second, _ := impl.PackMessage(m)
	if first == second || !strings.HasSuffix(second, "02\x34") {
		t.Errorf("%q and %q", first, second)
	}
}
