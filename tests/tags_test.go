package tests

import (
	"fmt"
	"slices"
	"strings"
	"testing"

	"loop.example/g00126/impl"
)

const mostTags = 60

// tagNums are the ints at which a number of a tag, or int itself, begins or ends.
var tagNums = slices.Concat(edgeInts, fieldInts, []int{-9999, 7, 20, 500, 9998, 9999, 10000, 10001, 99999, 1<<32 + 1, 1<<32 + 20, 1<<62 + 20})

// tagData are texts that a tag may have and, from the first one on that is not, texts that it may not.
func tagData() (good, bad []string) {
	for _, n := range []int{0, 1, 2, 9, 10, 95, 99, 100, 101, 198, 199, 200} {
		good = append(good, somePlain(n, n), strings.Repeat(" ", n), strings.Repeat("~", n), strings.Repeat("0", n))
	}
	for _, n := range []int{201, 202, 256, 999, 1000, 1001, 65536 + 200} {
		bad = append(bad, somePlain(n, n), strings.Repeat("0", n))
	}
	for b := range 256 {
		if within(b, 32, 126) {
			good = append(good, oneByte(b))
			continue
		}
		bad = append(bad, oneByte(b), oneByte(b)+"a", "a"+oneByte(b), strings.Repeat("a", 199)+oneByte(b), strings.Repeat("a", 100)+oneByte(b)+strings.Repeat("a", 99))
	}
	return good, append(bad, "é", "a\nb", "日本")
}

func wantTagOk(t impl.Tag) bool {
	return within(t.Num, 1, 9999) && len(t.Data) < 201 && isPlain(t.Data)
}

func wantTagsOk(list []impl.Tag) bool {
	seen := map[int]bool{}
	for _, t := range list {
		if !wantTagOk(t) || seen[t.Num] {
			return false
		}
		seen[t.Num] = true
	}
	return len(list) <= mostTags && slices.IsSortedFunc(list, func(a, b impl.Tag) int { return a.Num - b.Num })
}

func wantPutTags(list []impl.Tag) (string, bool) {
	if !wantTagsOk(list) {
		return "", false
	}
	var pieces []string
	for _, t := range list {
		pieces = append(pieces, fmt.Sprintf("%04d%03d%s", t.Num, len(t.Data), t.Data))
	}
	put := strings.Join(pieces, "")
	if len(put) >= 1000 {
		return "", false
	}
	return put, true
}

// wantGetTags takes the tags from the front of s one by one, and each number must be above the last.
func wantGetTags(s string) ([]impl.Tag, bool) {
	if len(s) >= 1000 {
		return nil, false
	}
	var list []impl.Tag
	last := 0
	for s != "" {
		head, ok := pieceAt(s, 0, 7)
		if !ok || !areDigits(head) {
			return nil, false
		}
		num, size := wantNumOf(head[:4]), lengthsAhead[head[4:]]
		data, ok := pieceAt(s, 7, size)
		if !ok || num <= last || size > 200 || !isPlain(data) || len(list) == mostTags {
			return nil, false
		}
		list = append(list, impl.Tag{Num: num, Data: data})
		last, s = num, s[7+size:]
	}
	return list, true
}

func wantTagOf(list []impl.Tag, num int) (string, bool) {
	at := slices.IndexFunc(list, func(t impl.Tag) bool { return t.Num == num })
	if at < 0 {
		return "", false
	}
	return list[at].Data, true
}

func wantTagCut(list []impl.Tag, num int) []impl.Tag {
	return slices.DeleteFunc(slices.Clone(list), func(t impl.Tag) bool { return t.Num == num })
}

// wantTagSet takes out what has that number, puts the new one behind all and sorts.
func wantTagSet(list []impl.Tag, num int, data string) ([]impl.Tag, bool) {
	if !wantTagsOk(list) || !wantTagOk(impl.Tag{Num: num, Data: data}) {
		return list, false
	}
	set := append(wantTagCut(list, num), impl.Tag{Num: num, Data: data})
	slices.SortFunc(set, func(a, b impl.Tag) int { return a.Num - b.Num })
	if len(set) > mostTags {
		return list, false
	}
	return set, true
}

func cloneTags(list []impl.Tag) []impl.Tag {
	clone := slices.Clone(list)
	for i := range clone {
		clone[i].Data = strings.Clone(clone[i].Data)
	}
	return clone
}

// tagsFrom has n tags with numbers first, first+step .. and data of size bytes each.
func tagsFrom(first, step, n, size int) []impl.Tag {
	var list []impl.Tag
	for i := range n {
		list = append(list, impl.Tag{Num: first + step*i, Data: somePlain(size, first+i)})
	}
	return list
}

// tagsOfText is a list that is TagsOk and put as just size bytes (size at least 7).
func tagsOfText(size int) []impl.Tag {
	var list []impl.Tag
	for num := 3; size >= 7; num += 100 {
		n := min(size-7, 200)
		if rest := size - 7 - n; rest > 0 && rest < 7 {
			n -= 7
		}
		list = append(list, impl.Tag{Num: num, Data: somePlain(n, num)})
		size -= 7 + n
	}
	return list
}

func goodTags() [][]impl.Tag {
	lists := [][]impl.Tag{
		nil,
		{},
		{{Num: 1}},
		{{Num: 9999}},
		{{Num: 1, Data: "ab"}, {Num: 20}},
		{{Num: 1}, {Num: 2}},
		{{Num: 1, Data: " "}, {Num: 9999, Data: "~"}},
		{{Num: 5, Data: "0006001x"}},
		{{Num: 5, Data: "0006"}, {Num: 7, Data: "000"}, {Num: 10, Data: "0010000"}},
		{{Num: 9998, Data: somePlain(200, 5)}, {Num: 9999, Data: somePlain(199, 9)}},
		{{Num: 9}, {Num: 10}, {Num: 99}, {Num: 100}, {Num: 999}, {Num: 1000}},
		tagsFrom(1, 1, mostTags, 0),
		tagsFrom(1, 1, mostTags-1, 3),
		tagsFrom(9999-mostTags+1, 1, mostTags, 9),
		tagsFrom(10, 169, 59, 9),
	}
	for _, size := range []int{7, 8, 206, 207, 208, 213, 214, 215, 500, 997, 998, 999} {
		lists = append(lists, tagsOfText(size))
	}
	return lists
}

// longTags are TagsOk, but have too many bytes to be put.
func longTags() [][]impl.Tag {
	return [][]impl.Tag{
		tagsOfText(1000), tagsOfText(1001), tagsOfText(1500),
		tagsFrom(1, 1, mostTags, 10), tagsFrom(1, 1, mostTags, 200), tagsFrom(1, 2000, 5, 200), tagsFrom(1, 1, mostTags-1, 10),
	}
}

func badTags() [][]impl.Tag {
	lists := [][]impl.Tag{
		{{Num: 0}},
		{{Num: 10000}},
		{{Num: -1, Data: "a"}},
		{{Num: leastOfInt, Data: "a"}},
		{{Num: greatestInt, Data: "a"}},
		{{Num: 0}, {Num: 1}},
		{{Num: 1}, {Num: 10000}},
		{{Num: 1}, {Num: greatestInt}},
		{{Num: leastOfInt}, {Num: 1}},
		{{Num: 2}, {Num: 2}},
		{{Num: 2, Data: "a"}, {Num: 2, Data: "b"}},
		{{Num: 2}, {Num: 1}},
		{{Num: 9999}, {Num: 1}},
		{{Num: 1}, {Num: 3}, {Num: 2}},
		{{Num: 2}, {Num: 1}, {Num: 3}},
		{{Num: 3}, {Num: 2}, {Num: 1}},
		{{Num: 1}, {Num: 2}, {Num: 1}},
		{{Num: 1, Data: "ab"}, {Num: 7, Data: "cd"}, {Num: 7, Data: "ef"}, {Num: 9, Data: "gh"}},
		{{Num: 20, Data: "ab"}, {Num: 7, Data: "cd"}, {Num: 20, Data: "ef"}, {Num: 7, Data: "gh"}, {Num: 1, Data: "ij"}},
		{{Num: 5, Data: somePlain(201, 0)}},
		{{Num: 5, Data: "a"}, {Num: 6, Data: somePlain(201, 0)}},
		{{Num: 5, Data: "a\x1f"}},
		{{Num: 5, Data: "\x7fa"}},
		{{Num: 5, Data: "\x00"}, {Num: 6}},
		{{Num: 5, Data: "a"}, {Num: 6, Data: "\xff"}},
		tagsFrom(1, 1, mostTags+1, 0),
		tagsFrom(1, 1, mostTags+1, 3),
		tagsFrom(1, 1, 2*mostTags, 1),
		tagsFrom(1, 1, 1000, 0),
		tagsFrom(1, 0, mostTags, 0),
		tagsFrom(mostTags, -1, mostTags, 0),
	}
	for i := range mostTags - 1 {
		swapped := tagsFrom(1, 3, mostTags, 2)
		swapped[i], swapped[i+1] = swapped[i+1], swapped[i]
		twice := tagsFrom(1, 3, mostTags, 2)
		twice[i+1].Num = twice[i].Num
		lists = append(lists, swapped, twice)
	}
	return lists
}

func allTags() [][]impl.Tag { return slices.Concat(goodTags(), longTags(), badTags()) }

func askTagsOk(t *testing.T, list []impl.Tag) {
	t.Helper()
	if got, want := impl.TagsOk(list), wantTagsOk(list); got != want {
		t.Errorf("TagsOk(%#v) = %v", list, got)
	}
}

func askPutTags(t *testing.T, list []impl.Tag) {
	t.Helper()
	want, wantOk := wantPutTags(list)
	if got, ok := impl.PutTags(list); got != want || ok != wantOk {
		t.Errorf("PutTags(%#v) = %q, %v; want %q, %v", list, got, ok, want, wantOk)
	}
}

func askGetTags(t *testing.T, s string) {
	t.Helper()
	want, wantOk := wantGetTags(s)
	got, ok := impl.GetTags(s)
	if !slices.Equal(got, want) || ok != wantOk {
		t.Errorf("GetTags(%q) = %#v, %v; want %#v, %v", s, got, ok, want, wantOk)
	}
	if put, putOk := impl.PutTags(got); ok && (!putOk || put != s) {
		t.Errorf("GetTags(%q) = %#v, which is put as %q, %v", s, got, put, putOk)
	}
}

func askTagsComeBack(t *testing.T, list []impl.Tag) string {
	t.Helper()
	s, ok := impl.PutTags(list)
	if !ok {
		t.Fatalf("PutTags(%#v) is refused", list)
	}
	if got, ok := impl.GetTags(s); !ok || !slices.Equal(got, list) {
		t.Fatalf("GetTags(%q) = %#v, %v; want %#v, true", s, got, ok, list)
	}
	return s
}

func askTagOf(t *testing.T, list []impl.Tag, num int) {
	t.Helper()
	want, wantOk := wantTagOf(list, num)
	if got, ok := impl.TagOf(list, num); got != want || ok != wantOk {
		t.Errorf("TagOf(%#v, %d) = %q, %v; want %q, %v", list, num, got, ok, want, wantOk)
	}
}

func askTagSet(t *testing.T, list []impl.Tag, num int, data string) {
	t.Helper()
	want, wantOk := wantTagSet(list, num, data)
	if got, ok := impl.TagSet(list, num, data); !slices.Equal(got, want) || ok != wantOk {
		t.Errorf("TagSet(%#v, %d, %q) = %#v, %v; want %#v, %v", list, num, data, got, ok, want, wantOk)
	}
}

func askTagCut(t *testing.T, list []impl.Tag, num int) {
	t.Helper()
	if got, want := impl.TagCut(list, num), wantTagCut(list, num); !slices.Equal(got, want) {
		t.Errorf("TagCut(%#v, %d) = %#v, want %#v", list, num, got, want)
	}
}

func TestMaxTags(t *testing.T) {
	if impl.MaxTags != mostTags {
		t.Errorf("MaxTags is %d", impl.MaxTags)
	}
}

func TestTagsOk(t *testing.T) {
	for _, list := range slices.Concat(goodTags(), longTags()) {
		if !impl.TagsOk(list) {
			t.Errorf("TagsOk(%#v) = false", list)
		}
	}
	for _, list := range badTags() {
		if impl.TagsOk(list) {
			t.Errorf("TagsOk(%#v) = true", list)
		}
	}
	for _, list := range allTags() {
		askTagsOk(t, list)
	}
}

func TestTagsOkByTheNumbers(t *testing.T) {
	for _, num := range tagNums {
		if got, want := impl.TagsOk([]impl.Tag{{Num: num, Data: "a"}}), num >= 1 && num <= 9999; got != want {
			t.Errorf("a tag of number %d: %v", num, got)
		}
		for _, other := range tagNums {
			askTagsOk(t, []impl.Tag{{Num: num}, {Num: other}})
			askTagsOk(t, []impl.Tag{{Num: num}, {Num: 500}, {Num: other}})
			askTagsOk(t, []impl.Tag{{Num: 500}, {Num: num}, {Num: other}})
		}
	}
}

func TestTagsOkByTheData(t *testing.T) {
	good, bad := tagData()
	for _, data := range good {
		if !impl.TagsOk([]impl.Tag{{Num: 7, Data: data}}) || !impl.TagsOk([]impl.Tag{{Num: 7}, {Num: 8, Data: data}, {Num: 9}}) {
			t.Errorf("data %q is refused", data)
		}
	}
	for _, data := range bad {
		if impl.TagsOk([]impl.Tag{{Num: 7, Data: data}}) || impl.TagsOk([]impl.Tag{{Num: 7}, {Num: 8}, {Num: 9, Data: data}}) || impl.TagsOk([]impl.Tag{{Num: 7, Data: data}, {Num: 8}}) {
			t.Errorf("data %q is taken", data)
		}
	}
}

func TestTagsOkByHowMany(t *testing.T) {
	for n := range 2*mostTags + 1 {
		for _, size := range []int{0, 10, 200} {
			if got := impl.TagsOk(tagsFrom(1, 7, n, size)); got != (n <= mostTags) {
				t.Errorf("%d tags of %d bytes: %v", n, size, got)
			}
		}
	}
}

func TestPutTagsNamed(t *testing.T) {
	cases := []struct {
		list []impl.Tag
		want string
		ok   bool
	}{
		{nil, "", true},
		{[]impl.Tag{}, "", true},
		{[]impl.Tag{{Num: 1}}, "0001000", true},
		{[]impl.Tag{{Num: 9999}}, "9999000", true},
		{[]impl.Tag{{Num: 0}}, "", false},
		{[]impl.Tag{{Num: 10000}}, "", false},
		{[]impl.Tag{{Num: 1, Data: "ab"}, {Num: 20}}, "0001002ab0020000", true},
		{[]impl.Tag{{Num: 20}, {Num: 1, Data: "ab"}}, "", false},
		{[]impl.Tag{{Num: 20}, {Num: 20, Data: "ab"}}, "", false},
		{[]impl.Tag{{Num: 12, Data: " 0 "}}, "0012003 0 ", true},
		{[]impl.Tag{{Num: 123, Data: "0123456789"}, {Num: 1234, Data: "~"}}, "012301001234567891234001~", true},
		{[]impl.Tag{{Num: 3, Data: strings.Repeat("x", 200)}}, "0003200" + strings.Repeat("x", 200), true},
		{[]impl.Tag{{Num: 3, Data: strings.Repeat("x", 201)}}, "", false},
		{[]impl.Tag{{Num: 3, Data: "\x1f"}}, "", false},
		{[]impl.Tag{{Num: 3, Data: "\x7f"}}, "", false},
	}
	for _, c := range cases {
		if got, ok := impl.PutTags(c.list); got != c.want || ok != c.ok {
			t.Errorf("PutTags(%#v) = %q, %v; want %q, %v", c.list, got, ok, c.want, c.ok)
		}
	}
}

func TestPutTags(t *testing.T) {
	for _, list := range allTags() {
		askPutTags(t, list)
	}
	for _, num := range tagNums {
		askPutTags(t, []impl.Tag{{Num: num, Data: "a"}})
		askPutTags(t, []impl.Tag{{Num: 20}, {Num: num, Data: "a"}})
		askPutTags(t, []impl.Tag{{Num: num, Data: "a"}, {Num: 20}})
	}
	good, bad := tagData()
	for _, data := range append(good, bad...) {
		askPutTags(t, []impl.Tag{{Num: 7, Data: data}})
		askPutTags(t, []impl.Tag{{Num: 7}, {Num: 8, Data: data}})
	}
}

func TestPutTagsByTheBytes(t *testing.T) {
	for size := 7; size <= 1100; size++ {
		s, ok := impl.PutTags(tagsOfText(size))
		if ok != (size <= 999) || ok && len(s) != size || !ok && s != "" {
			t.Errorf("tags of %d bytes: %d bytes, %v", size, len(s), ok)
		}
	}
}

func TestTagsComeBack(t *testing.T) {
	for _, list := range goodTags() {
		s := askTagsComeBack(t, list)
		if want, _ := wantPutTags(list); s != want {
			t.Errorf("PutTags(%#v) = %q, want %q", list, s, want)
		}
	}
	for size := 7; size <= 999; size++ {
		askTagsComeBack(t, tagsOfText(size))
	}
	for n := range mostTags + 1 {
		askTagsComeBack(t, tagsFrom(1+n, 150, n, 0))
		askTagsComeBack(t, tagsFrom(1+n, 150, n, n%10))
	}
	for num := 1; num <= 9999; num++ {
		askTagsComeBack(t, []impl.Tag{{Num: num, Data: somePlain(num%201, num)}})
	}
	good, _ := tagData()
	for _, data := range good {
		askTagsComeBack(t, []impl.Tag{{Num: 7, Data: data}})
		askTagsComeBack(t, []impl.Tag{{Num: 7, Data: data}, {Num: 8, Data: data}, {Num: 9}})
	}
}

func TestGetTagsNamed(t *testing.T) {
	cases := []struct {
		s    string
		want []impl.Tag
		ok   bool
	}{
		{"", nil, true},
		{"0001000", []impl.Tag{{Num: 1}}, true},
		{"9999000", []impl.Tag{{Num: 9999}}, true},
		{"0000000", nil, false},
		{"0001002ab0020000", []impl.Tag{{Num: 1, Data: "ab"}, {Num: 20}}, true},
		{"00200000001002ab", nil, false},
		{"0001002ab0001000", nil, false},
		{"00010000001000", nil, false},
		{"00020000001000", nil, false},
		{"00010000003000" + "0002000", nil, false},
		{"1", nil, false},
		{"0001", nil, false},
		{"000100", nil, false},
		{"0001001", nil, false},
		{"0001002a", nil, false},
		{"0001003ab", nil, false},
		{"0001002abc", nil, false},
		{"0001002ab0", nil, false},
		{"0001002ab002000", nil, false},
		{"0001002ab0020000x", nil, false},
		{"0001002ab0020000\x00", nil, false},
		{" 001000", nil, false},
		{"+001000", nil, false},
		{"-001000", nil, false},
		{"00a1000", nil, false},
		{"0001 00", nil, false},
		{"0001+00", nil, false},
		{"0001-00", nil, false},
		{"0001-01a", nil, false},
		{"0001 01a", nil, false},
		{"000100:", nil, false},
		{"000100/", nil, false},
		{"0001002a\x1f", nil, false},
		{"0001002a ", []impl.Tag{{Num: 1, Data: "a "}}, true},
		{"0001002a~", []impl.Tag{{Num: 1, Data: "a~"}}, true},
		{"0001002a\x7f", nil, false},
		{"0001002a\n", nil, false},
		{"0001200" + strings.Repeat("y", 200), []impl.Tag{{Num: 1, Data: strings.Repeat("y", 200)}}, true},
		{"0001201" + strings.Repeat("y", 201), nil, false},
		{"0001200" + strings.Repeat("y", 201), nil, false},
		{"0001200" + strings.Repeat("y", 199), nil, false},
		{"0001999" + strings.Repeat("y", 999), nil, false},
		{"0001992" + strings.Repeat("y", 992), nil, false},
		{"00010070002000", []impl.Tag{{Num: 1, Data: "0002000"}}, true},
	}
	for _, c := range cases {
		if got, ok := impl.GetTags(c.s); !slices.Equal(got, c.want) || ok != c.ok {
			t.Errorf("GetTags(%q) = %#v, %v; want %#v, %v", c.s, got, ok, c.want, c.ok)
		}
		askGetTags(t, c.s)
	}
}

// textOfTags is written without a look at whether the list is TagsOk or too long.
func textOfTags(list []impl.Tag) string {
	text := ""
	for _, t := range list {
		text += fmt.Sprintf("%04d%03d%s", t.Num, len(t.Data), t.Data)
	}
	return text
}

func TestGetTagsOfNoList(t *testing.T) {
	for _, list := range slices.Concat(longTags(), badTags()) {
		if got, ok := impl.GetTags(textOfTags(list)); len(got) != 0 || ok {
			t.Errorf("GetTags(%q) = %#v, %v", textOfTags(list), got, ok)
		}
	}
	for n := range 150 {
		got, ok := impl.GetTags(textOfTags(tagsFrom(1, 1, n, 0)))
		if ok != (n <= mostTags) || ok && len(got) != n || !ok && len(got) != 0 {
			t.Errorf("the text of %d tags: %#v, %v", n, got, ok)
		}
	}
	for size := 7; size <= 1100; size++ {
		got, ok := impl.GetTags(textOfTags(tagsOfText(size)))
		if ok != (size <= 999) || !ok && len(got) != 0 {
			t.Errorf("a text of %d bytes: %#v, %v", size, got, ok)
		}
	}
	for a := range 60 {
		for b := range 60 {
			if got, ok := impl.GetTags(fmt.Sprintf("%04d001x%04d000", a, b)); ok != (a > 0 && a < b) || !ok && len(got) != 0 {
				t.Errorf("tags of numbers %d, %d: %#v, %v", a, b, got, ok)
			}
		}
	}
}

func TestGetTagsCutOff(t *testing.T) {
	for _, list := range goodTags() {
		s, _ := impl.PutTags(list)
		ends := map[int]int{0: 0}
		for i := range list {
			ends[len(textOfTags(list[:i+1]))] = i + 1
		}
		for cut := range s {
			got, ok := impl.GetTags(s[:cut])
			n, whole := ends[cut]
			if ok != whole || !slices.Equal(got, list[:n]) {
				t.Fatalf("%d bytes of %q: %#v, %v", cut, s, got, ok)
			}
		}
	}
}

func TestGetTagsWithSomethingBehind(t *testing.T) {
	for _, list := range goodTags() {
		s, _ := impl.PutTags(list)
		for _, more := range append(behinds, s, " ", "000000", "0000000", "0001000", "9999", "9999001", "9999000", "99990000") {
			askGetTags(t, s+more)
		}
		for b := range 256 {
			if got, ok := impl.GetTags(s + oneByte(b)); len(got) != 0 || ok {
				t.Errorf("GetTags(%q and byte %d) = %#v, %v", s, b, got, ok)
			}
		}
		if got, ok := impl.GetTags(s + s); s != "" && (len(got) != 0 || ok) {
			t.Errorf("GetTags(%q twice) = %#v, %v", s, got, ok)
		}
	}
}

func TestGetTagsWithOneByteChanged(t *testing.T) {
	for _, list := range goodTags() {
		s, _ := impl.PutTags(list)
		for i := range s {
			bytes := daysFrom(0, 1, 256)
			if i > 25 {
				bytes = []int{0, 31, 32, 47, 48, 49, 50, 57, 58, 126, 127, 255}
			}
			for _, b := range bytes {
				askGetTags(t, s[:i]+oneByte(b)+s[i+1:])
			}
		}
	}
}

func TestGetTagsWithAByteMoreOrFewer(t *testing.T) {
	for _, list := range goodTags() {
		s, _ := impl.PutTags(list)
		for i := range s {
			askGetTags(t, s[:i]+s[i+1:])
			for _, b := range []int{0, 32, 48, 49, 57, 127, 255} {
				askGetTags(t, s[:i]+oneByte(b)+s[i:])
			}
		}
	}
}

func TestGetTagsLengthsAhead(t *testing.T) {
	for n := range 1000 {
		for _, more := range []int{-1, 0, 1, 7} {
			askGetTags(t, fmt.Sprintf("0005%03d", n)+strings.Repeat("7", max(n+more, 0)))
		}
	}
	for a := range 256 {
		for b := range 256 {
			askGetTags(t, "00"+oneByte(a)+oneByte(b)+"001x")
			askGetTags(t, "00050"+oneByte(a)+oneByte(b)+"0000000")
		}
	}
}

func TestGetTagsAnything(t *testing.T) {
	for n := range 60 {
		for first := range 256 {
			askGetTags(t, someText(n, first))
			askGetTags(t, someDigits(n, first))
			askGetTags(t, "0100010"+someText(n, first))
			askGetTags(t, "0100010"+somePlain(n, first))
		}
	}
	for _, s := range []string{"0", "9", " ", "\x00", "\xff", "0001000", "0100900"} {
		askGetTags(t, strings.Repeat(s, 200000/len(s)))
	}
}

func TestTagOf(t *testing.T) {
	list := []impl.Tag{{Num: 1, Data: "ab"}, {Num: 20}, {Num: 9999, Data: "c"}}
	cases := []struct {
		num  int
		want string
		ok   bool
	}{{1, "ab", true}, {20, "", true}, {9999, "c", true}, {0, "", false}, {2, "", false}, {19, "", false}, {21, "", false}, {-1, "", false}, {10000, "", false}, {leastOfInt, "", false}, {greatestInt, "", false}}
	for _, c := range cases {
		if got, ok := impl.TagOf(list, c.num); got != c.want || ok != c.ok {
			t.Errorf("TagOf(%d) = %q, %v; want %q, %v", c.num, got, ok, c.want, c.ok)
		}
	}
	for _, list := range allTags() {
		for _, num := range tagNums {
			askTagOf(t, list, num)
		}
		for _, tag := range list {
			askTagOf(t, list, tag.Num)
		}
	}
}

func TestTagSetNamed(t *testing.T) {
	list := []impl.Tag{{Num: 2, Data: "ab"}, {Num: 20}}
	cases := []struct {
		num  int
		data string
		want []impl.Tag
		ok   bool
	}{
		{7, "x", []impl.Tag{{Num: 2, Data: "ab"}, {Num: 7, Data: "x"}, {Num: 20}}, true},
		{1, "", []impl.Tag{{Num: 1}, {Num: 2, Data: "ab"}, {Num: 20}}, true},
		{9999, "z", []impl.Tag{{Num: 2, Data: "ab"}, {Num: 20}, {Num: 9999, Data: "z"}}, true},
		{2, "y", []impl.Tag{{Num: 2, Data: "y"}, {Num: 20}}, true},
		{2, "ab", []impl.Tag{{Num: 2, Data: "ab"}, {Num: 20}}, true},
		{2, "", []impl.Tag{{Num: 2}, {Num: 20}}, true},
		{20, "cd", []impl.Tag{{Num: 2, Data: "ab"}, {Num: 20, Data: "cd"}}, true},
		{20, strings.Repeat("x", 200), []impl.Tag{{Num: 2, Data: "ab"}, {Num: 20, Data: strings.Repeat("x", 200)}}, true},
		{20, strings.Repeat("x", 201), list, false},
		{7, strings.Repeat("x", 201), list, false},
		{7, "\x1f", list, false},
		{2, "\x7f", list, false},
		{0, "x", list, false},
		{-2, "x", list, false},
		{10000, "x", list, false},
		{leastOfInt, "x", list, false},
		{greatestInt, "x", list, false},
	}
	for _, c := range cases {
		if got, ok := impl.TagSet(list, c.num, c.data); !slices.Equal(got, c.want) || ok != c.ok {
			t.Errorf("TagSet(%d, %q) = %#v, %v; want %#v, %v", c.num, c.data, got, ok, c.want, c.ok)
		}
	}
}

func TestTagSet(t *testing.T) {
	good, bad := tagData()
	for _, list := range allTags() {
		for _, num := range tagNums {
			askTagSet(t, list, num, "new")
			askTagSet(t, list, num, "")
			askTagSet(t, list, num, "\x1f")
		}
		for _, tag := range list[:min(len(list), 2*mostTags)] {
			askTagSet(t, list, tag.Num, "new")
			askTagSet(t, list, tag.Num, somePlain(201, 0))
			askTagSet(t, list, tag.Num-1, "")
			askTagSet(t, list, tag.Num+1, somePlain(200, 0))
		}
	}
	for _, data := range append(good, bad...) {
		for _, list := range [][]impl.Tag{nil, {{Num: 7}}, {{Num: 1, Data: "a"}, {Num: 7, Data: "bc"}, {Num: 9}}, {{Num: 7}, {Num: 1}}} {
			askTagSet(t, list, 7, data)
			askTagSet(t, list, 8, data)
			askTagSet(t, list, 0, data)
		}
	}
}

// A list with MaxTags has no room for a new number, but for one that it has.
func TestTagSetWhenFull(t *testing.T) {
	full := tagsFrom(2, 2, mostTags, 3)
	for num := 1; num <= 2*mostTags+3; num++ {
		got, ok := impl.TagSet(full, num, "new")
		there := num%2 == 0 && num <= 2*mostTags
		if ok != there || len(got) != mostTags {
			t.Errorf("number %d: %#v, %v", num, got, ok)
		}
		if !there && !slices.Equal(got, full) {
			t.Errorf("number %d: %#v is not the list", num, got)
		}
	}
	got, ok := impl.TagSet(full[:mostTags-1], 9999, "last")
	if !ok || len(got) != mostTags || got[mostTags-1] != (impl.Tag{Num: 9999, Data: "last"}) {
		t.Errorf("the last one that has room: %#v, %v", got, ok)
	}
	over := tagsFrom(2, 2, mostTags+1, 3)
	for _, num := range []int{2, 4, 2*mostTags + 2, 5} {
		if got, ok := impl.TagSet(over, num, "new"); ok || !slices.Equal(got, over) {
			t.Errorf("number %d in a list that is too long: %#v, %v", num, got, ok)
		}
	}
}

// Whether a list can be put is no matter of TagSet.
func TestTagSetBeyondAText(t *testing.T) {
	list := tagsOfText(999)
	got, ok := impl.TagSet(list, 9999, somePlain(200, 1))
	if !ok || len(got) != len(list)+1 {
		t.Errorf("%#v, %v", got, ok)
	}
	if s, ok := impl.PutTags(got); s != "" || ok {
		t.Errorf("PutTags = %q, %v", s, ok)
	}
}

func TestTagSetLeavesTheOthers(t *testing.T) {
	for _, list := range slices.Concat(goodTags(), longTags()) {
		for num := 1; num <= 9999; num += 1 + num/40 {
			set, ok := impl.TagSet(list, num, "it is new")
			if !ok {
				continue
			}
			if data, there := impl.TagOf(set, num); !there || data != "it is new" {
				t.Errorf("TagSet(%#v, %d): %q, %v is there", list, num, data, there)
			}
			if !impl.TagsOk(set) {
				t.Errorf("TagSet(%#v, %d) = %#v", list, num, set)
			}
			if got := impl.TagCut(set, num); !slices.Equal(got, impl.TagCut(list, num)) {
				t.Errorf("TagSet(%#v, %d): the others are %#v", list, num, got)
			}
			for _, tag := range list {
				if data, there := impl.TagOf(set, tag.Num); tag.Num != num && (!there || data != tag.Data) {
					t.Errorf("TagSet(%#v, %d): tag %d is %q, %v", list, num, tag.Num, data, there)
				}
			}
		}
	}
}

// Tags that are set in any order come out as one list.
func TestTagSetInAnyOrder(t *testing.T) {
	want := tagsFrom(5, 11, mostTags, 4)
	for _, step := range []int{1, 7, 11, 13, 17, 23, 29, 59} {
		var list []impl.Tag
		for i := range mostTags {
			tag := want[(i*step+step)%mostTags]
			ok := false
			if list, ok = impl.TagSet(list, tag.Num, tag.Data); !ok {
				t.Fatalf("tag %d is refused", tag.Num)
			}
		}
		if !slices.Equal(list, want) {
			t.Errorf("by steps of %d: %#v", step, list)
		}
	}
}

func TestTagCut(t *testing.T) {
	list := []impl.Tag{{Num: 2, Data: "ab"}, {Num: 20}, {Num: 9999, Data: "c"}}
	cases := []struct {
		num  int
		want []impl.Tag
	}{
		{2, []impl.Tag{{Num: 20}, {Num: 9999, Data: "c"}}},
		{20, []impl.Tag{{Num: 2, Data: "ab"}, {Num: 9999, Data: "c"}}},
		{9999, []impl.Tag{{Num: 2, Data: "ab"}, {Num: 20}}},
		{1, list}, {3, list}, {0, list}, {-2, list}, {10000, list}, {leastOfInt, list}, {greatestInt, list},
	}
	for _, c := range cases {
		if got := impl.TagCut(list, c.num); !slices.Equal(got, c.want) {
			t.Errorf("TagCut(%d) = %#v, want %#v", c.num, got, c.want)
		}
	}
	if got := impl.TagCut([]impl.Tag{{Num: 5, Data: "a"}}, 5); len(got) != 0 {
		t.Errorf("of one tag %#v is left", got)
	}
	for _, list := range allTags() {
		for _, num := range tagNums {
			askTagCut(t, list, num)
		}
		for _, tag := range list[:min(len(list), 2*mostTags)] {
			askTagCut(t, list, tag.Num)
		}
	}
}

func TestTagCutLeavesTheOthers(t *testing.T) {
	for _, list := range slices.Concat(goodTags(), longTags()) {
		for i, tag := range list {
			cut := impl.TagCut(list, tag.Num)
			if data, there := impl.TagOf(cut, tag.Num); there || data != "" {
				t.Errorf("TagCut(%#v, %d): %q is there", list, tag.Num, data)
			}
			if !slices.Equal(cut, slices.Concat(list[:i], list[i+1:])) || !impl.TagsOk(cut) {
				t.Errorf("TagCut(%#v, %d) = %#v", list, tag.Num, cut)
			}
			if back, ok := impl.TagSet(cut, tag.Num, tag.Data); !ok || !slices.Equal(back, list) {
				t.Errorf("tag %d put back into %#v: %#v, %v", tag.Num, cut, back, ok)
			}
		}
	}
}

func TestTagsAreNotWrittenInto(t *testing.T) {
	for _, list := range allTags() {
		n := len(list)
		room := append(cloneTags(list), impl.Tag{Num: 9999, Data: "kept"}, impl.Tag{Num: -5, Data: "kept too"}, impl.Tag{}, impl.Tag{Num: 3})
		kept := cloneTags(room)
		nums := []int{leastOfInt, -1, 0, 1, 2, 7, 20, 500, 9998, 9999, 10000, greatestInt}
		if n > 0 {
			nums = append(nums, room[0].Num, room[n/2].Num, room[n-1].Num, room[n-1].Num+1)
		}
		for range 2 {
			impl.TagsOk(room[:n])
			impl.PutTags(room[:n])
			for _, num := range nums {
				impl.TagOf(room[:n], num)
				impl.TagCut(room[:n], num)
				for _, data := range []string{"", "other", "\x1f"} {
					impl.TagSet(room[:n], num, data)
				}
			}
		}
		if !slices.Equal(room, kept) {
			t.Errorf("%#v was written into: %#v", kept[:n], room)
		}
	}
}

// askTagsShareNothing holds the texts of one list against others, then writes over the list.
func askTagsShareNothing(t *testing.T, what string, list []impl.Tag, others ...string) {
	t.Helper()
	for _, tag := range list {
		for _, other := range others {
			if len(tag.Data) > 1 && shares(tag.Data, other) {
				t.Errorf("%s: tag %d shares memory", what, tag.Num)
			}
		}
	}
	for i := range list {
		list[i] = impl.Tag{Num: -1, Data: "changed"}
	}
	for i, room := 0, list[len(list):cap(list)]; i < len(room); i++ {
		room[i] = impl.Tag{Num: -2, Data: "changed"}
	}
}

func textsOf(lists ...[]impl.Tag) []string {
	var texts []string
	for _, tag := range slices.Concat(lists...) {
		texts = append(texts, tag.Data)
	}
	return texts
}

func TestTagListsAreNewMemory(t *testing.T) {
	for _, list := range allTags() {
		if len(list) > 2*mostTags {
			continue
		}
		list, kept := cloneTags(list), cloneTags(list)
		nums := []int{0, 1, 8, 9999}
		if len(list) > 0 {
			nums = append(nums, list[0].Num, list[len(list)-1].Num)
		}
		for _, num := range nums {
			for _, data := range []string{strings.Repeat("new", 2), strings.Repeat("\x1f", 2)} {
				one, _ := impl.TagSet(list, num, data)
				two, ok := impl.TagSet(list, num, data)
				askTagsShareNothing(t, "TagSet", one, append(textsOf(list, two), data)...)
				want, wantOk := wantTagSet(kept, num, data)
				if !slices.Equal(list, kept) || !slices.Equal(two, want) || ok != wantOk {
					t.Fatalf("TagSet(%#v, %d, %q): an answer that is changed changes another thing", kept, num, data)
				}
			}
			one, two := impl.TagCut(list, num), impl.TagCut(list, num)
			askTagsShareNothing(t, "TagCut", one, textsOf(list, two)...)
			if !slices.Equal(list, kept) || !slices.Equal(two, wantTagCut(kept, num)) {
				t.Fatalf("TagCut(%#v, %d): an answer that is changed changes another thing", kept, num)
			}
		}
	}
}

func TestTextsOfTagsAreNewMemory(t *testing.T) {
	for _, list := range goodTags() {
		list = cloneTags(list)
		s, _ := impl.PutTags(list)
		for _, tag := range list {
			got, _ := impl.TagOf(list, tag.Num)
			again, _ := impl.TagOf(list, tag.Num)
			if len(tag.Data) > 1 && (shares(s, tag.Data) || shares(got, tag.Data) || shares(got, again)) {
				t.Errorf("tag %d shares memory", tag.Num)
			}
		}
		one, _ := impl.GetTags(s)
		two, _ := impl.GetTags(s)
		askTagsShareNothing(t, "GetTags", one, append(textsOf(two), s)...)
		if !slices.Equal(two, list) {
			t.Errorf("two answers of GetTags(%q) share memory", s)
		}
	}
}

func TestTagsAreNotKept(t *testing.T) {
	good := "0001002ab0020000"
	for _, bad := range []string{"1", good[:10], good + "x", "00200000001000", "0001002a\x1f"} {
		if got, ok := impl.GetTags(bad); len(got) != 0 || ok {
			t.Errorf("GetTags(%q) = %#v, %v", bad, got, ok)
		}
		if got, ok := impl.GetTags(good); !ok || !slices.Equal(got, []impl.Tag{{Num: 1, Data: "ab"}, {Num: 20}}) {
			t.Errorf("behind %q: %#v, %v", bad, got, ok)
		}
	}
	list := []impl.Tag{{Num: 1, Data: "ab"}}
	first, _ := impl.PutTags(list)
	list[0].Data = "cd"
	second, _ := impl.PutTags(list)
	if first != "0001002ab" || second != "0001002cd" {
		t.Errorf("%q and %q", first, second)
	}
}
