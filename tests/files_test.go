package tests

import (
	"encoding/binary"
	"encoding/hex"
	"fmt"
	"io"
	"math/big"
	"slices"
	"strings"
	"testing"

	"loop.example/g00126/impl"
)

const (
	blockSize   = 1014
	pieceSize   = 1012
	mostFile    = 60000
	mostBlocks  = 59 // 60000 is no whole number of blocks: this many fit
	mostRecords = 200
	mostRecord  = 3000
	endOfFile   = "\x00\x00\x00\x00"
)

var fillingPiece = strings.Repeat("@", pieceSize)

// laidOf is written without a look at whether the records are so, and without their end.
func laidOf(records ...string) string {
	var laid []byte
	for _, r := range records {
		laid = append(binary.BigEndian.AppendUint32(laid, uint32(len(r))), r...)
	}
	return string(laid)
}

// fileOf cuts anything that is laid into blocks, with filling behind it.
func fileOf(laid string) string {
	if short := len(laid) % pieceSize; short != 0 {
		laid += fillingPiece[short:]
	}
	var file strings.Builder
	for i := 0; i < len(laid); i += pieceSize {
		file.WriteString(laid[i:i+pieceSize] + "@@")
	}
	return file.String()
}

func fileWith(records ...string) string { return fileOf(laidOf(records...) + endOfFile) }

func wantBlock(records []string) (string, bool) {
	for _, r := range records {
		if !within(len(r), 1, mostRecord) {
			return "", false
		}
	}
	if len(records) > mostRecords {
		return "", false
	}
	file := fileWith(records...)
	if len(file) > mostFile {
		return "", false
	}
	return file, true
}

// wantUnblock reads what was laid from the front by a reader that knows of no places.
func wantUnblock(s string) ([]string, int) {
	if s == "" || len(s) > mostFile || len(s)%blockSize != 0 {
		return nil, impl.FileLen
	}
	laid := ""
	for i := 0; i < len(s); i += blockSize {
		if s[i+pieceSize:i+blockSize] != "@@" {
			return nil, impl.FilePad
		}
		laid += s[i : i+pieceSize]
	}
	from := strings.NewReader(laid)
	var records []string
	for {
		ahead := make([]byte, 4)
		if _, err := io.ReadFull(from, ahead); err != nil {
			return nil, impl.FileCut
		}
		size := binary.BigEndian.Uint32(ahead)
		if size == 0 {
			break
		}
		if size > mostRecord || len(records) == mostRecords {
			return nil, impl.FileCut
		}
		record := make([]byte, size)
		if _, err := io.ReadFull(from, record); err != nil {
			return nil, impl.FileCut
		}
		records = append(records, string(record))
	}
	rest, _ := io.ReadAll(from)
	if len(rest) >= pieceSize || strings.Trim(string(rest), "@") != "" {
		return nil, impl.FileRest
	}
	return records, impl.FileOk
}

func askBlock(t *testing.T, records []string) {
	t.Helper()
	want, wantOk := wantBlock(records)
	if got, ok := impl.Block(records); got != want || ok != wantOk {
		t.Errorf("Block of %d records: %d bytes, %v; want %d bytes, %v", len(records), len(got), ok, len(want), wantOk)
	}
}

func askUnblock(t *testing.T, s string) int {
	t.Helper()
	want, wantCode := wantUnblock(s)
	got, code := impl.Unblock(s)
	if !slices.Equal(got, want) || code != wantCode {
		t.Errorf("Unblock of %d bytes: %d records, code %d; want %d records, code %d", len(s), len(got), code, len(want), wantCode)
	}
	if code == impl.FileOk {
		if put, ok := impl.Block(got); !ok || put != s {
			t.Errorf("Unblock of %d bytes: its records are blocked as %d bytes, %v", len(s), len(put), ok)
		}
	}
	return code
}

func refusesFile(t *testing.T, what, s string, want int) {
	t.Helper()
	if got, code := impl.Unblock(s); len(got) != 0 || code != want {
		t.Errorf("%s: %d records, code %d; want none, code %d", what, len(got), code, want)
	}
}

func askRecordsComeBack(t *testing.T, records []string) string {
	t.Helper()
	s, ok := impl.Block(records)
	if !ok {
		t.Fatalf("Block of %d records is refused", len(records))
	}
	if got, code := impl.Unblock(s); code != impl.FileOk || !slices.Equal(got, records) {
		t.Fatalf("%d records: Unblock answers %d records, code %d", len(records), len(got), code)
	}
	return s
}

// recordsFor are laid as just size bytes, their end with them (4, or at least 9).
func recordsFor(size int) []string {
	var records []string
	for left := size - 4; left >= 5; {
		n := min(left-4, mostRecord)
		if rest := left - 4 - n; rest > 0 && rest < 5 {
			n -= 5
		}
		records = append(records, someText(n, size+left))
		left -= 4 + n
	}
	return records
}

func recordsOfSize(n, size int) []string {
	var records []string
	for i := range n {
		records = append(records, someText(size, i))
	}
	return records
}

func goodRecords() [][]string {
	lists := [][]string{
		nil,
		{},
		{"a"},
		{"\x00"},
		{"@"},
		{"ab"},
		{"ab", "c"},
		{"\x00\x00\x00\x00"},
		{"\x00\x00\x00\x00", "@@@@", "\x00\x00\x00\x02ab"},
		{strings.Repeat("@", mostRecord)},
		{strings.Repeat("\x00", mostRecord), "x"},
		{someText(255, 1), someText(256, 2), someText(257, 3)},
		{someText(mostRecord, 5)},
		{someText(mostRecord-1, 5), someText(mostRecord, 6), "z"},
		{fileWith("ab", "c")},
		recordsOfSize(mostRecords, 1),
		recordsOfSize(mostRecords-1, 7),
		recordsOfSize(mostRecords, 294),
		recordsOfSize(19, mostRecord),
	}
	for _, blocks := range []int{1, 2, 3, 4, 30, 58, 59} {
		size := blocks * pieceSize
		lists = append(lists, recordsFor(size-5), recordsFor(size-4), recordsFor(size-3), recordsFor(size-2), recordsFor(size-1), recordsFor(size))
	}
	return lists
}

func badRecords() [][]string {
	return [][]string{
		{""},
		{"", "a"},
		{"a", ""},
		{"a", "", "b"},
		{"", ""},
		{someText(mostRecord+1, 0)},
		{"a", someText(mostRecord+1, 0)},
		{someText(mostRecord+1, 0), "a"},
		{someText(65536+2, 0)},
		{someText(100000, 0)},
		recordsOfSize(mostRecords+1, 1),
		recordsOfSize(2*mostRecords, 1),
		recordsOfSize(70000, 1),
		recordsOfSize(mostRecords+1, 0),
		recordsOfSize(20, mostRecord),
		recordsOfSize(mostRecords, 295),
		recordsOfSize(mostRecords, mostRecord),
		recordsFor(mostBlocks*pieceSize + 1),
		recordsFor(mostBlocks*pieceSize + 2),
		recordsFor((mostBlocks + 1) * pieceSize),
		recordsFor((mostBlocks + 5) * pieceSize),
	}
}

func TestLimitsAndCodesOfFiles(t *testing.T) {
	if impl.BlockLen != blockSize || impl.MaxFile != mostFile || impl.MaxRecords != mostRecords {
		t.Error("a limit is another number")
	}
	if impl.FileOk != 0 || impl.FileLen != 1 || impl.FilePad != 2 || impl.FileCut != 3 || impl.FileRest != 4 {
		t.Error("a code of a file is another number")
	}
	if impl.BatchOk != 0 || impl.BatchFile != 1 || impl.BatchMsg != 2 || impl.BatchHead != 3 || impl.BatchTail != 4 {
		t.Error("a code of a batch is another number")
	}
}

func TestBlockNamed(t *testing.T) {
	at := func(n int) string { return strings.Repeat("@", n) }
	q := func(n int) string { return strings.Repeat("q", n) }
	cases := []struct {
		records []string
		want    string
		ok      bool
	}{
		{nil, "\x00\x00\x00\x00" + at(1010), true},
		{[]string{}, "\x00\x00\x00\x00" + at(1010), true},
		{[]string{""}, "", false},
		{[]string{"a"}, "\x00\x00\x00\x01a\x00\x00\x00\x00" + at(1005), true},
		{[]string{"ab", "c"}, "\x00\x00\x00\x02ab\x00\x00\x00\x01c\x00\x00\x00\x00" + at(999), true},
		{[]string{q(1003)}, "\x00\x00\x03\xeb" + q(1003) + "\x00\x00\x00\x00" + "@" + "@@", true},
		{[]string{q(1004)}, "\x00\x00\x03\xec" + q(1004) + "\x00\x00\x00\x00" + "@@", true},
		{[]string{q(1005)}, "\x00\x00\x03\xed" + q(1005) + "\x00\x00\x00" + "@@" + "\x00" + at(1013), true},
		{[]string{q(1006)}, "\x00\x00\x03\xee" + q(1006) + "\x00\x00" + "@@" + "\x00\x00" + at(1012), true},
		{[]string{q(1007)}, "\x00\x00\x03\xef" + q(1007) + "\x00" + "@@" + "\x00\x00\x00" + at(1011), true},
		{[]string{q(1008)}, "\x00\x00\x03\xf0" + q(1008) + "@@" + "\x00\x00\x00\x00" + at(1010), true},
		{[]string{q(1009)}, "\x00\x00\x03\xf1" + q(1008) + "@@" + "q\x00\x00\x00\x00" + at(1009), true},
		{[]string{q(1006), "xyz"}, "\x00\x00\x03\xee" + q(1006) + "\x00\x00" + "@@" + "\x00\x03xyz\x00\x00\x00\x00" + at(1005), true},
		{[]string{q(3000)}, "\x00\x00\x0b\xb8" + q(1008) + "@@" + q(1012) + "@@" + q(980) + "\x00\x00\x00\x00" + at(30), true},
		{[]string{q(3001)}, "", false},
	}
	for i, c := range cases {
		if got, ok := impl.Block(c.records); got != c.want || ok != c.ok {
			t.Errorf("case %d: %q, %v; want %q, %v", i, got, ok, c.want, c.ok)
		}
		if !c.ok {
			continue
		}
		if got, code := impl.Unblock(c.want); !slices.Equal(got, c.records) || code != impl.FileOk {
			t.Errorf("case %d comes back as %q, code %d", i, got, code)
		}
	}
}

func TestBlock(t *testing.T) {
	for _, records := range slices.Concat(goodRecords(), badRecords()) {
		askBlock(t, records)
	}
	for i, records := range badRecords() {
		if got, ok := impl.Block(records); got != "" || ok {
			t.Errorf("list %d is taken: %d bytes, %v", i, len(got), ok)
		}
	}
}

func TestBlockByTheRecords(t *testing.T) {
	for size := range mostRecord + 10 {
		if _, ok := impl.Block([]string{someText(size, 3)}); ok != within(size, 1, mostRecord) {
			t.Errorf("a record of %d bytes: %v", size, ok)
		}
	}
	for n := range mostRecords + 10 {
		if _, ok := impl.Block(recordsOfSize(n, 3)); ok != (n <= mostRecords) {
			t.Errorf("%d records: %v", n, ok)
		}
	}
	for i := range mostRecords {
		for _, wrong := range []string{"", someText(mostRecord+1, i)} {
			records := recordsOfSize(mostRecords, 2)
			records[i] = wrong
			if got, ok := impl.Block(records); got != "" || ok {
				t.Errorf("record %d has %d bytes: %d bytes, %v", i, len(wrong), len(got), ok)
			}
		}
	}
}

// The last block is filled just so, with a byte less, and with one more, which needs the next.
func TestBlockByTheBlocks(t *testing.T) {
	for blocks := 1; blocks <= mostBlocks+1; blocks++ {
		for more := -5; more <= 5; more++ {
			want := blocks * blockSize
			if more > 0 {
				want += blockSize
			}
			s, ok := impl.Block(recordsFor(blocks*pieceSize + more))
			if ok != (want <= mostFile) || ok && len(s) != want || !ok && s != "" {
				t.Errorf("%d blocks and %d: %d bytes, %v", blocks, more, len(s), ok)
			}
		}
	}
}

func TestRecordsComeBack(t *testing.T) {
	for _, records := range goodRecords() {
		s := askRecordsComeBack(t, records)
		if want, _ := wantBlock(records); s != want {
			t.Errorf("Block of %d records is another text", len(records))
		}
	}
	for size := 9; size <= 3*pieceSize+20; size++ {
		askRecordsComeBack(t, recordsFor(size))
	}
	for size := 1; size <= mostRecord; size += 1 + size/200 {
		askRecordsComeBack(t, []string{someText(size, size)})
		askRecordsComeBack(t, recordsOfSize(min(mostRecords, 59704/(size+4)), size))
	}
	for n := range mostRecords + 1 {
		askRecordsComeBack(t, recordsOfSize(n, 1+n%290))
	}
	for b := range 256 {
		askRecordsComeBack(t, []string{oneByte(b), strings.Repeat(oneByte(b), 700), strings.Repeat(oneByte(b), 1100)})
	}
}

// The length of the second record stands across the end of a block in each way.
func TestLengthsAcrossBlocks(t *testing.T) {
	for first := 980; first <= 1020; first++ {
		for _, second := range []int{1, 255, 256, 1012, 3000} {
			records := []string{someText(first, 1), someText(second, 2), "end"}
			askBlock(t, records)
			askRecordsComeBack(t, records)
		}
	}
}

func TestUnblockLength(t *testing.T) {
	for size := range 3*blockSize + 2 {
		code := askUnblock(t, strings.Repeat("@", size))
		if whole := size > 0 && size%blockSize == 0; !whole && code != impl.FileLen || whole && code == impl.FileLen {
			t.Errorf("%d bytes: code %d", size, code)
		}
	}
	full := fileWith(recordsFor(mostBlocks * pieceSize)...)
	if got, code := impl.Unblock(full); len(full) != mostBlocks*blockSize || code != impl.FileOk || !slices.Equal(got, recordsFor(mostBlocks*pieceSize)) {
		t.Errorf("a file of %d bytes: %d records, code %d", len(full), len(got), code)
	}
	refusesFile(t, "MaxFile bytes, which are no whole blocks", full+strings.Repeat("@", mostFile-len(full)), impl.FileLen)
	refusesFile(t, "MaxFile bytes and one", full+strings.Repeat("@", mostFile+1-len(full)), impl.FileLen)
	refusesFile(t, "a block more than a file has", full+fileOf(fillingPiece), impl.FileLen)
	refusesFile(t, "records for a block more than a file has", fileWith(recordsFor(mostBlocks*pieceSize+1)...), impl.FileLen)
	refusesFile(t, "very many blocks", strings.Repeat(fileWith("ab"), 5000), impl.FileLen)
}

func TestUnblockPad(t *testing.T) {
	for _, records := range goodRecords() {
		s := fileWith(records...)
		for at := pieceSize; at < len(s); at += blockSize {
			for _, b := range []int{0, 32, 63, 65, 192, 255} {
				refusesFile(t, "the last byte but one of a block", s[:at]+oneByte(b)+s[at+1:], impl.FilePad)
				refusesFile(t, "the last byte of a block", s[:at+1]+oneByte(b)+s[at+2:], impl.FilePad)
			}
		}
	}
}

func TestUnblockCut(t *testing.T) {
	q := func(n int) string { return strings.Repeat("q", n) }
	cases := []struct{ what, laid string }{
		{"filling alone", fillingPiece},
		{"a length of filling behind a record", laidOf("ab")},
		{"a record that reaches beyond the end by one", "\x00\x00\x03\xf1" + q(1008)},
		{"a record of two blocks in one", "\x00\x00\x07\xe4" + q(1008)},
		{"a record of 3000 bytes in one block", "\x00\x00\x0b\xb8" + q(1008)},
		{"a record of 3001 bytes", laidOf(q(3001)) + endOfFile},
		{"a record of 3001 bytes behind one", laidOf("ab", q(3001)) + endOfFile},
		{"a record of 4000 bytes", laidOf(q(4000)) + endOfFile},
		{"a length of two bytes", "\x00\x01\x00\x00" + q(900)},
		{"a length of three bytes", "\x01\x00\x00\x00" + q(900)},
		{"a length of three bytes and 1", "\x01\x00\x00\x01" + "a" + endOfFile},
		{"a length whose highest bit is set", "\x80\x00\x00\x01" + "a" + endOfFile},
		{"the greatest length", "\xff\xff\xff\xff" + q(900)},
		{"the greatest length, of all bits but the lowest two", "\xff\xff\xff\xfc" + endOfFile},
		{"no end, and no byte left", laidOf(q(1008))},
		{"no end, and a byte 0 left", laidOf(q(1007)) + endOfFile[:1]},
		{"no end, and two bytes 0 left", laidOf(q(1006)) + endOfFile[:2]},
		{"no end, and three bytes 0 left", laidOf(q(1005)) + endOfFile[:3]},
		{"no end, and three bytes of filling left", laidOf(q(1005))},
		{"no end in two blocks", laidOf(q(1005), q(1011))},
		{"an end of three bytes", laidOf("ab") + endOfFile[:3]},
		{"records to the end of the greatest file", laidOf(recordsFor(mostBlocks*pieceSize + 4)...)},
		{"a record more than MaxRecords", laidOf(recordsOfSize(mostRecords+1, 1)...) + endOfFile},
		{"twice MaxRecords", laidOf(recordsOfSize(2*mostRecords, 3)...) + endOfFile},
		{"a length behind MaxRecords", laidOf(recordsOfSize(mostRecords, 1)...) + "\x00\x00\x00\x01"},
	}
	for _, c := range cases {
		refusesFile(t, c.what, fileOf(c.laid), impl.FileCut)
		askUnblock(t, fileOf(c.laid))
	}
	for n := range mostRecords + 5 {
		code := askUnblock(t, fileWith(recordsOfSize(n, 2)...))
		if (code == impl.FileOk) != (n <= mostRecords) || n > mostRecords && code != impl.FileCut {
			t.Errorf("a file of %d records: code %d", n, code)
		}
	}
}

func TestUnblockLengthsAhead(t *testing.T) {
	body := someText(1500, 9)
	for size := range 5000 {
		ahead := string(binary.BigEndian.AppendUint32(nil, uint32(size)))
		askUnblock(t, fileOf(ahead+body[:min(size, 1500)]+endOfFile))
		askUnblock(t, fileOf(ahead+strings.Repeat("\x00", 900)))
	}
	for i := range 4 {
		for b := range 256 {
			ahead := []byte{0, 0, 0, 3}
			ahead[i] = byte(b)
			askUnblock(t, fileOf(string(ahead)+"abc"+endOfFile))
			askUnblock(t, fileOf(string(ahead)+strings.Repeat("\x00", 1008)))
		}
	}
}

func TestUnblockRest(t *testing.T) {
	for _, records := range [][]string{nil, {"a"}, {"ab", "c"}, recordsFor(pieceSize - 1), recordsFor(pieceSize), recordsFor(pieceSize + 1), recordsFor(2*pieceSize - 3), recordsFor(3 * pieceSize)} {
		laid := laidOf(records...) + endOfFile
		s := fileOf(laid)
		filled := len(s)/blockSize*pieceSize - len(laid)
		for i := range filled {
			for _, b := range []int{0, 32, 63, 65, 255} {
				other := strings.Repeat("@", i) + oneByte(b) + strings.Repeat("@", filled-i-1)
				refusesFile(t, "a filling with another byte", fileOf(laid+other), impl.FileRest)
			}
		}
		for _, b := range []int{0, 32, 63, 65, 255} {
			if filled > 0 {
				refusesFile(t, "a filling of another byte", fileOf(laid+strings.Repeat(oneByte(b), filled)), impl.FileRest)
			}
			refusesFile(t, "a block of another byte behind", s+fileOf(strings.Repeat(oneByte(b), pieceSize)), impl.FileRest)
		}
		for blocks := 1; blocks <= 5; blocks++ {
			refusesFile(t, "whole blocks of filling behind", s+strings.Repeat(fileOf(fillingPiece), blocks), impl.FileRest)
		}
		refusesFile(t, "the file twice", s+s, impl.FileRest)
		refusesFile(t, "a file of no record behind", s+fileOf(endOfFile), impl.FileRest)
		refusesFile(t, "blocks up to MaxFile behind", s+strings.Repeat(fileOf(fillingPiece), mostBlocks-len(s)/blockSize), impl.FileRest)
	}
}

// Each fault alone and with each other one: the one that is named first is told.
func TestUnblockFirstFault(t *testing.T) {
	for faults := range 16 {
		laid, want := laidOf("ab", strings.Repeat("q", 2000))+endOfFile, impl.FileOk
		if faults&8 != 0 {
			laid, want = laid+"x", impl.FileRest
		}
		if faults&4 != 0 {
			laid, want = laidOf(strings.Repeat("q", 3001))+laid, impl.FileCut
		}
		s := fileOf(laid)
		if faults&2 != 0 {
			s, want = s[:blockSize-1]+"x"+s[blockSize:], impl.FilePad
		}
		if faults&1 != 0 {
			s, want = s[:len(s)-1], impl.FileLen
		}
		if _, code := impl.Unblock(s); code != want {
			t.Errorf("faults %04b: code %d, want %d", faults, code, want)
		}
		askUnblock(t, s)
	}
}

// smallFiles are good ones of few blocks, for what is asked at each of their bytes.
func smallFiles() []string {
	return []string{
		fileWith(),
		fileWith("ab", "c", "@", "\x00"),
		fileWith(someText(1004, 3)),
		fileWith(someText(1005, 3)),
		fileWith(someText(1006, 3), someText(300, 1), "xyz"),
		fileWith(recordsOfSize(mostRecords, 3)...),
	}
}

func TestUnblockCutOff(t *testing.T) {
	for _, s := range append(smallFiles(), fileWith(recordsFor(20*pieceSize)...)) {
		for cut := range len(s) {
			code := askUnblock(t, s[:cut])
			if code == impl.FileOk || cut%blockSize != 0 && code != impl.FileLen {
				t.Errorf("%d of %d bytes: code %d", cut, len(s), code)
			}
		}
		for first := 1; first < min(len(s), 3000); first++ {
			askUnblock(t, s[first:])
		}
	}
}

func TestUnblockWithOneByteChanged(t *testing.T) {
	for _, s := range smallFiles() {
		for i := range len(s) {
			for _, b := range []int{0, 1, 2, 3, 11, 12, 63, 64, 65, 127, 128, 255} {
				askUnblock(t, s[:i]+oneByte(b)+s[i+1:])
			}
		}
	}
	s := fileWith("ab", "c")
	for i := range 40 {
		for b := range 256 {
			askUnblock(t, s[:i]+oneByte(b)+s[i+1:])
		}
	}
}

func TestUnblockWithAByteMoreOrFewer(t *testing.T) {
	for _, s := range smallFiles() {
		for i := range len(s) {
			askUnblock(t, s[:i]+s[i+1:])
			refusesFile(t, "a byte more", s[:i]+"@"+s[i:], impl.FileLen)
			askUnblock(t, s[:i]+"\x00"+s[i:len(s)-1])
			askUnblock(t, s[:i]+s[i+1:]+"@")
		}
	}
}

func TestUnblockAnything(t *testing.T) {
	for first := range 256 {
		for _, size := range []int{1, 5, pieceSize, pieceSize + 1, 2*pieceSize - 1, 5 * pieceSize} {
			askUnblock(t, someText(size, first))
			askUnblock(t, fileOf(someText(size, first)))
			askUnblock(t, fileOf("\x00\x00\x00\x07"+someText(size, first)))
			askUnblock(t, fileOf(endOfFile+someText(size, first)))
			askUnblock(t, strings.Repeat(oneByte(first), size/pieceSize*blockSize))
		}
	}
	for _, s := range []string{"0", "@", "\x00", "\xff"} {
		askUnblock(t, strings.Repeat(s, mostBlocks*blockSize))
		askUnblock(t, strings.Repeat(s, 1000*blockSize))
	}
}

// headText and tailText are written by hand: the first and the last record of a batch.
const headText = "1644" + "\x80\x00\x01\x00\x00\x00\x00\x00" + "\x02\x00\x00\x00\x00\x00\x00\x00" + "\x06\x97" + "\x00\x00\x00\x01"

func tailText(sum string, count int) string {
	digits := strings.Repeat("0", 12-len(sum)) + sum + "0695" + fmt.Sprintf("%08d", count)
	packed, _ := hex.DecodeString(digits)
	return "1644" + "\x90\x00\x01\x00\x00\x00\x00\x00" + "\x02\x00\x00\x00\x00\x00\x00\x00" + string(packed)
}

func sumOfAmounts(list []impl.Message) string {
	sum := new(big.Int)
	for _, m := range list {
		for _, f := range m.Fields {
			if x, ok := new(big.Int).SetString(f.Data, 10); f.Num == 4 && ok {
				sum.Add(sum, x)
			}
		}
	}
	return sum.String()
}

// wantPlaced is the list with its places in field 71.
func wantPlaced(list []impl.Message) []impl.Message {
	var placed []impl.Message
	for i, m := range list {
		m, _ = wantWith(m, 71, fmt.Sprintf("%08d", i+2))
		placed = append(placed, m)
	}
	return placed
}

func wantBatch(list []impl.Message) (string, bool) {
	if len(list) > mostRecords-2 || slices.ContainsFunc(list, func(m impl.Message) bool { return !wantMessageOk(m) }) {
		return "", false
	}
	sum := sumOfAmounts(list)
	if len(sum) > 12 {
		return "", false
	}
	records := []string{headText}
	for _, m := range wantPlaced(list) {
		packed, _ := wantPack(m)
		records = append(records, packed)
	}
	return wantBlock(append(records, tailText(sum, len(list))))
}

func wantReadBatch(s string) ([]impl.Message, int) {
	records, code := wantUnblock(s)
	if code != impl.FileOk {
		return nil, impl.BatchFile
	}
	var list []impl.Message
	for _, r := range records {
		m, code, _ := wantUnpack(r)
		if code != impl.MsgOk {
			return nil, impl.BatchMsg
		}
		list = append(list, m)
	}
	if len(list) < 2 || records[0] != headText {
		return nil, impl.BatchHead
	}
	last := list[len(list)-1]
	list = list[1 : len(list)-1]
	sum := sumOfAmounts(list)
	if len(sum) > 12 || wantText(last) != fmt.Sprintf("1644 4=%012s 24=695 71=%08d", sum, len(list)) {
		return nil, impl.BatchTail
	}
	if !slices.EqualFunc(list, wantPlaced(list), sameMessage) {
		return nil, impl.BatchTail
	}
	return list, impl.BatchOk
}

func askBatch(t *testing.T, list []impl.Message) {
	t.Helper()
	want, wantOk := wantBatch(list)
	if got, ok := impl.Batch(list); got != want || ok != wantOk {
		t.Errorf("Batch of %d messages: %d bytes, %v; want %d bytes, %v", len(list), len(got), ok, len(want), wantOk)
	}
}

func askReadBatch(t *testing.T, s string) int {
	t.Helper()
	want, wantCode := wantReadBatch(s)
	got, code := impl.ReadBatch(s)
	if !slices.EqualFunc(got, want, sameMessage) || code != wantCode {
		t.Errorf("ReadBatch of %d bytes: %d messages, code %d; want %d messages, code %d", len(s), len(got), code, len(want), wantCode)
	}
	if code == impl.BatchOk {
		if put, ok := impl.Batch(got); !ok || put != s {
			t.Errorf("ReadBatch of %d bytes: its messages are batched as %d bytes, %v", len(s), len(put), ok)
		}
	}
	return code
}

func refusesBatch(t *testing.T, what, s string, want int) {
	t.Helper()
	if got, code := impl.ReadBatch(s); len(got) != 0 || code != want {
		t.Errorf("%s: %d messages, code %d; want none, code %d", what, len(got), code, want)
	}
}

func refusesToBatch(t *testing.T, what string, list []impl.Message) {
	t.Helper()
	if got, ok := impl.Batch(list); got != "" || ok {
		t.Errorf("%s: %d bytes, %v", what, len(got), ok)
	}
}

func askMessagesComeBack(t *testing.T, list []impl.Message) string {
	t.Helper()
	s, ok := impl.Batch(list)
	if !ok {
		t.Fatalf("Batch of %d messages is refused", len(list))
	}
	got, code := impl.ReadBatch(s)
	if code != impl.BatchOk || !slices.EqualFunc(got, wantPlaced(list), sameMessage) {
		t.Fatalf("%d messages: ReadBatch answers %#v, code %d", len(list), got, code)
	}
	if again, ok := impl.Batch(got); !ok || again != s {
		t.Fatalf("%d messages: what was read is batched as %d bytes, %v", len(list), len(again), ok)
	}
	return s
}

func paying(amount int) impl.Message {
	return impl.Message{Kind: 1240, Fields: []impl.Field{{Num: 4, Data: fmt.Sprintf("%012d", amount)}}}
}

func payings(amounts ...int) []impl.Message {
	var list []impl.Message
	for _, x := range amounts {
		list = append(list, paying(x))
	}
	return list
}

// ofLittle is m with a small amount, where it has one, so that many of them have a sum of few digits.
func ofLittle(m impl.Message) impl.Message {
	if _, there := impl.FieldOf(m, 4); there {
		m, _ = wantWith(m, 4, fmt.Sprintf("%012d", 7+m.Kind))
	}
	return m
}

func littleMessages() []impl.Message {
	var list []impl.Message
	for _, m := range goodMessages() {
		list = append(list, ofLittle(m))
	}
	return list
}

func manyMessages(n int) []impl.Message {
	var list []impl.Message
	for i := range n {
		list = append(list, ofLittle(messageOf(i, i*37%0x4000)))
		if i%3 == 0 {
			list[i] = paying(i * 1000)
		}
	}
	return list
}

// messagesFor are batched as just size bytes that are laid (at least 101).
func messagesFor(size int) []impl.Message {
	var list []impl.Message
	for left := size - 70; left >= 31; {
		n := min(left-31, 999)
		if rest := left - 31 - n; rest > 0 && rest < 31 {
			n -= 31
		}
		list = append(list, impl.Message{Kind: 1644, Fields: []impl.Field{{Num: 48, Data: somePlain(n, left)}}})
		left -= 31 + n
	}
	return list
}

func framesAsMessages() []impl.Message {
	head, _, _ := wantUnpack(headText)
	tail, _, _ := wantUnpack(tailText("77", 3))
	return []impl.Message{tail, head, tail, head}
}

func goodBatches() [][]impl.Message {
	lists := [][]impl.Message{
		nil,
		{},
		{{}},
		{paying(0)},
		{paying(500), paying(500)},
		{paying(999999999999)},
		payings(999999999998, 1),
		payings(499999999999, 0, 500000000000),
		slices.Repeat(payings(5050505050), 198),
		append(payings(1), impl.Message{Kind: 9999}),
		littleMessages(),
		goodMessages()[:10],
		framesAsMessages(),
		{wholeMessage(), wholeMessage(), wholeMessage()},
		manyMessages(mostRecords - 3),
		manyMessages(mostRecords - 2),
		make([]impl.Message, mostRecords-2),
		slices.Repeat([]impl.Message{messageOf(5, 1<<12)}, mostRecords-2),
	}
	for _, blocks := range []int{1, 2, 30, 59} {
		lists = append(lists, messagesFor(blocks*pieceSize-1), messagesFor(blocks*pieceSize))
	}
	return lists
}

func badBatches() [][]impl.Message {
	lists := [][]impl.Message{
		make([]impl.Message, mostRecords-1),
		make([]impl.Message, mostRecords),
		make([]impl.Message, mostRecords+1),
		make([]impl.Message, 100000),
		manyMessages(mostRecords - 1),
		payings(999999999999, 1),
		payings(1, 999999999999),
		payings(500000000000, 500000000000),
		slices.Repeat(payings(999999999999), 198),
		slices.Repeat(payings(5050505051), 198),
		slices.Repeat(payings(999999999999), 20000),
		messagesFor(mostBlocks*pieceSize + 1),
		messagesFor(mostBlocks*pieceSize + 2),
		messagesFor((mostBlocks + 1) * pieceSize),
		slices.Repeat([]impl.Message{messageOf(1, 0x0400)}, 199),
	}
	for _, m := range badMessages() {
		lists = append(lists, []impl.Message{m}, []impl.Message{paying(1), m}, []impl.Message{m, paying(1), paying(2)})
	}
	return lists
}

func TestBatchNamed(t *testing.T) {
	placed := "1240" + "\x90\x00\x00\x00\x00\x00\x00\x00" + "\x02\x00\x00\x00\x00\x00\x00\x00" + "\x00\x00\x00\x00\x05\x00" + "\x00\x00\x00"
	bare := "0000" + "\x80\x00\x00\x00\x00\x00\x00\x00" + "\x02\x00\x00\x00\x00\x00\x00\x00" + "\x00\x00\x00"
	cases := []struct {
		list []impl.Message
		want string
	}{
		{nil, fileWith(headText, tailText("0", 0))},
		{[]impl.Message{}, fileWith(headText, tailText("0", 0))},
		{[]impl.Message{{}}, fileWith(headText, bare+"\x02", tailText("0", 1))},
		{payings(500), fileWith(headText, placed+"\x02", tailText("500", 1))},
		{payings(500, 500), fileWith(headText, placed+"\x02", placed+"\x03", tailText("1000", 2))},
		{append(payings(500), impl.Message{}), fileWith(headText, placed+"\x02", bare+"\x03", tailText("500", 2))},
	}
	for i, c := range cases {
		if got, ok := impl.Batch(c.list); got != c.want || !ok {
			t.Errorf("case %d: %q, %v; want %q", i, got, ok, c.want)
		}
		if got, code := impl.ReadBatch(c.want); !slices.EqualFunc(got, wantPlaced(c.list), sameMessage) || code != impl.BatchOk {
			t.Errorf("case %d comes back as %#v, code %d", i, got, code)
		}
	}
}

func TestBatch(t *testing.T) {
	for _, list := range slices.Concat(goodBatches(), badBatches()) {
		askBatch(t, list)
	}
	for i, list := range badBatches() {
		refusesToBatch(t, fmt.Sprintf("list %d", i), list)
	}
	for i := range mostRecords - 2 {
		list := manyMessages(mostRecords - 2)
		list[i] = impl.Message{Kind: 1, Fields: []impl.Field{{Num: 3, Data: "12345"}}}
		refusesToBatch(t, fmt.Sprintf("no message at place %d", i), list)
	}
}

func TestBatchByHowMany(t *testing.T) {
	for n := range mostRecords + 10 {
		if _, ok := impl.Batch(manyMessages(n)); ok != (n <= mostRecords-2) {
			t.Errorf("%d messages: %v", n, ok)
		}
	}
}

func TestBatchBySum(t *testing.T) {
	for _, x := range []int{0, 1, 2, 499999999999, 500000000000, 999999999998, 999999999999} {
		for _, y := range []int{0, 1, 2, 499999999999, 500000000000, 999999999998, 999999999999} {
			list := []impl.Message{paying(x), {Kind: 7}, paying(y)}
			if _, ok := impl.Batch(list); ok != (x+y <= 999999999999) {
				t.Errorf("%d and %d: %v", x, y, ok)
			}
			askBatch(t, list)
		}
	}
	// A text of digits in another field is no amount.
	list := append(payings(999999999999), impl.Message{Kind: 1, Fields: []impl.Field{{Num: 12, Data: "999999999999"}}})
	askMessagesComeBack(t, list)
}

func TestBatchByTheBlocks(t *testing.T) {
	for _, blocks := range []int{1, 2, 3, 57, 58, 59, 60} {
		for more := -5; more <= 5; more++ {
			want := blocks * blockSize
			if more > 0 {
				want += blockSize
			}
			list := messagesFor(blocks*pieceSize + more)
			s, ok := impl.Batch(list)
			if ok != (want <= mostFile) || ok && len(s) != want || !ok && s != "" {
				t.Errorf("%d blocks and %d: %d bytes, %v", blocks, more, len(s), ok)
			}
			if ok {
				askMessagesComeBack(t, list)
			}
		}
	}
}

func TestMessagesComeBack(t *testing.T) {
	for _, list := range goodBatches() {
		s := askMessagesComeBack(t, list)
		if want, _ := wantBatch(list); s != want {
			t.Errorf("Batch of %d messages is another text", len(list))
		}
	}
	for i, m := range goodMessages() {
		little := littleMessages()[i]
		askMessagesComeBack(t, []impl.Message{m})
		askMessagesComeBack(t, []impl.Message{little, little, little})
	}
	for n := range mostRecords - 1 {
		askMessagesComeBack(t, manyMessages(n))
	}
	for bits := range 1 << len(knownNums) {
		if bits%7 == 0 {
			askMessagesComeBack(t, []impl.Message{messageOf(bits%10000, bits)})
		}
	}
}

func TestMessagesAreNumbered(t *testing.T) {
	for _, list := range goodBatches() {
		s, _ := impl.Batch(list)
		records, _ := impl.Unblock(s)
		if len(records) != len(list)+2 {
			t.Fatalf("%d messages: %d records", len(list), len(records))
		}
		for i, r := range records[:len(records)-1] {
			m, _, _ := impl.UnpackMessage(r)
			if place, there := impl.FieldOf(m, 71); !there || place != fmt.Sprintf("%08d", i+1) {
				t.Errorf("record %d of %d has the place %q, %v", i, len(records), place, there)
			}
		}
		tail, _, _ := impl.UnpackMessage(records[len(records)-1])
		if got, want := impl.MessageText(tail), fmt.Sprintf("1644 4=%012s 24=695 71=%08d", sumOfAmounts(list), len(list)); got != want {
			t.Errorf("the last record of %d is %q, want %q", len(records), got, want)
		}
	}
}

func fieldsBut(m impl.Message, num int) []impl.Field {
	return slices.DeleteFunc(slices.Clone(m.Fields), func(f impl.Field) bool { return f.Num == num })
}

// Field 71 comes new, or for the one that a message had, and every other field is as it was.
func TestBatchPutsTheFieldOfItsPlace(t *testing.T) {
	for _, m := range littleMessages() {
		for _, had := range []string{"", "00000000", "00000001", "00000002", "00000003", "99999999"} {
			one := impl.Message{Kind: m.Kind, Fields: fieldsBut(m, 71)}
			if had != "" {
				one, _ = wantWith(one, 71, had)
			}
			s := askMessagesComeBack(t, []impl.Message{one, paying(3), one})
			got, _ := impl.ReadBatch(s)
			for i := range got {
				want := []impl.Message{one, paying(3), one}[i]
				if got[i].Kind != want.Kind || !slices.Equal(fieldsBut(got[i], 71), fieldsBut(want, 71)) || !impl.MessageOk(got[i]) {
					t.Errorf("%#v came back as %#v", want, got[i])
				}
				if place, _ := impl.FieldOf(got[i], 71); place != fmt.Sprintf("%08d", i+2) {
					t.Errorf("message %d has the place %q", i, place)
				}
			}
		}
	}
}

// packed is a record of any fields that are so.
func packed(kind int, fields ...impl.Field) string {
	s, ok := wantPack(impl.Message{Kind: kind, Fields: fields})
	if !ok {
		panic("a test packs what is no message")
	}
	return s
}

func fieldOf(num int, data string) impl.Field { return impl.Field{Num: num, Data: data} }

// smallBatch are the records of four messages, of which two have an amount; 350 in all.
func smallBatch() []string {
	return []string{
		headText,
		packed(1240, fieldOf(4, "000000000100"), fieldOf(71, "00000002")),
		packed(1644, fieldOf(24, "695"), fieldOf(71, "00000003")),
		packed(1740, fieldOf(4, "000000000250"), fieldOf(24, "700"), fieldOf(48, "00010011"), fieldOf(71, "00000004")),
		packed(1, fieldOf(71, "00000005"), fieldOf(72, "text")),
		tailText("350", 4),
	}
}

func changed(i int, record string) string {
	records := smallBatch()
	records[i] = record
	return fileWith(records...)
}

func TestReadBatchHead(t *testing.T) {
	if _, code := impl.ReadBatch(fileWith(smallBatch()...)); code != impl.BatchOk {
		t.Fatalf("the batch as it is: code %d", code)
	}
	kind, place := fieldOf(24, "697"), fieldOf(71, "00000001")
	heads := []string{
		packed(1645, kind, place), packed(1643, kind, place), packed(0, kind, place), packed(1240, kind, place), packed(6441, kind, place),
		packed(1644, fieldOf(24, "695"), place), packed(1644, fieldOf(24, "696"), place), packed(1644, fieldOf(24, "698"), place), packed(1644, fieldOf(24, "000"), place),
		packed(1644, kind, fieldOf(71, "00000000")), packed(1644, kind, fieldOf(71, "00000002")), packed(1644, kind, fieldOf(71, "00000004")), packed(1644, kind, fieldOf(71, "10000001")),
		packed(1644), packed(1644, kind), packed(1644, place), packed(1644, fieldOf(25, "0697"), place),
		packed(1644, fieldOf(2, ""), kind, place), packed(1644, fieldOf(4, "000000000000"), kind, place), packed(1644, kind, fieldOf(48, ""), place), packed(1644, kind, place, fieldOf(72, "")), packed(1644, kind, place, fieldOf(93, "1")),
		tailText("350", 4), tailText("0", 1), smallBatch()[1],
	}
	for i, head := range heads {
		refusesBatch(t, fmt.Sprintf("head %d", i), changed(0, head), impl.BatchHead)
		refusesBatch(t, fmt.Sprintf("head %d and the tail alone", i), fileWith(head, tailText("0", 0)), impl.BatchHead)
		refusesBatch(t, fmt.Sprintf("head %d alone", i), fileWith(head), impl.BatchHead)
		refusesBatch(t, fmt.Sprintf("head %d and no tail", i), fileWith(head, smallBatch()[1]), impl.BatchHead)
	}
	refusesBatch(t, "no record", fileWith(), impl.BatchHead)
	refusesBatch(t, "the first alone", fileWith(headText), impl.BatchHead)
	refusesBatch(t, "the last alone", fileWith(tailText("0", 0)), impl.BatchHead)
	refusesBatch(t, "no first", fileWith(smallBatch()[1:]...), impl.BatchHead)
	refusesBatch(t, "the last twice", fileWith(tailText("0", 0), tailText("0", 0)), impl.BatchHead)
	refusesBatch(t, "the last ahead of the first", fileWith(tailText("0", 0), headText), impl.BatchHead)
}

func TestReadBatchTail(t *testing.T) {
	sum, kind, count := fieldOf(4, "000000000350"), fieldOf(24, "695"), fieldOf(71, "00000004")
	tails := []string{
		packed(1645, sum, kind, count), packed(1643, sum, kind, count), packed(0, sum, kind, count), packed(1240, sum, kind, count),
		packed(1644, sum, fieldOf(24, "697"), count), packed(1644, sum, fieldOf(24, "694"), count), packed(1644, sum, fieldOf(24, "000"), count),
		packed(1644, kind, count), packed(1644, sum, count), packed(1644, sum, kind), packed(1644),
		packed(1644, fieldOf(2, ""), sum, kind, count), packed(1644, fieldOf(3, "000000"), sum, kind, count), packed(1644, sum, kind, fieldOf(49, "840"), count), packed(1644, sum, kind, count, fieldOf(72, "")), packed(1644, sum, kind, count, fieldOf(93, "")),
		packed(1644, fieldOf(12, "000000000350"), kind, count),
		headText, smallBatch()[4], packed(1, fieldOf(71, "00000006")),
	}
	for i, tail := range tails {
		refusesBatch(t, fmt.Sprintf("tail %d", i), changed(5, tail), impl.BatchTail)
		refusesBatch(t, fmt.Sprintf("tail %d behind the first alone", i), fileWith(headText, tail), impl.BatchTail)
	}
	refusesBatch(t, "no last", fileWith(smallBatch()[:5]...), impl.BatchTail)
	refusesBatch(t, "the last twice", fileWith(append(smallBatch(), tailText("350", 4))...), impl.BatchTail)
	refusesBatch(t, "one behind the last", fileWith(append(smallBatch(), smallBatch()[1])...), impl.BatchTail)
	refusesBatch(t, "the first twice, with no last", fileWith(headText, headText), impl.BatchTail)
	refusesBatch(t, "the first twice", fileWith(headText, headText, tailText("0", 1)), impl.BatchTail)
}

// A file with another sum or count is refused.
func TestReadBatchOfAnotherSumOrCount(t *testing.T) {
	for sum := range 1200 {
		if code := askReadBatch(t, changed(5, tailText(fmt.Sprint(sum), 4))); (code == impl.BatchOk) != (sum == 350) || sum != 350 && code != impl.BatchTail {
			t.Errorf("a sum of %d: code %d", sum, code)
		}
	}
	for _, sum := range []string{"349999999999", "100000000350", "350000000000", "999999999999"} {
		refusesBatch(t, "a sum of "+sum, changed(5, tailText(sum, 4)), impl.BatchTail)
	}
	for count := range 300 {
		if code := askReadBatch(t, changed(5, tailText("350", count))); (code == impl.BatchOk) != (count == 4) || count != 4 && code != impl.BatchTail {
			t.Errorf("a count of %d: code %d", count, code)
		}
	}
	for _, count := range []int{10000004, 40000000, 99999999} {
		refusesBatch(t, fmt.Sprint("a count of ", count), changed(5, tailText("350", count)), impl.BatchTail)
	}
	for amount := range 300 {
		one := packed(1240, fieldOf(4, fmt.Sprintf("%012d", amount)), fieldOf(71, "00000002"))
		if code := askReadBatch(t, changed(1, one)); (code == impl.BatchOk) != (amount == 100) {
			t.Errorf("an amount of %d: code %d", amount, code)
		}
	}
}

func TestReadBatchOfALongSum(t *testing.T) {
	for _, amounts := range [][2]int{{999999999999, 1}, {1, 999999999999}, {500000000000, 500000000000}, {999999999999, 999999999999}, {999999999999, 351}} {
		for _, sum := range []int{0, 1, 350, 100000000000, 999999999998, 999999999999, (amounts[0] + amounts[1]) % 1000000000000, (amounts[0] + amounts[1]) / 10} {
			one := packed(1240, fieldOf(4, fmt.Sprintf("%012d", amounts[0])), fieldOf(71, "00000002"))
			two := packed(1240, fieldOf(4, fmt.Sprintf("%012d", amounts[1])), fieldOf(71, "00000003"))
			refusesBatch(t, fmt.Sprint(amounts, " with a sum of ", sum), fileWith(headText, one, two, tailText(fmt.Sprint(sum), 2)), impl.BatchTail)
		}
	}
}

func TestReadBatchOfAnotherPlace(t *testing.T) {
	places := append(daysFrom(0, 1, 30), 10000002, 20000000, 99999999)
	for i := 1; i <= 4; i++ {
		m, _, _ := wantUnpack(smallBatch()[i])
		for _, place := range places {
			placed, _ := wantWith(m, 71, fmt.Sprintf("%08d", place))
			code := askReadBatch(t, changed(i, packed(placed.Kind, placed.Fields...)))
			if want := place == i+1; (code == impl.BatchOk) != want || !want && code != impl.BatchTail {
				t.Errorf("message %d with place %d: code %d", i, place, code)
			}
		}
		refusesBatch(t, fmt.Sprint("no place in message ", i), changed(i, packed(m.Kind, fieldsBut(m, 71)...)), impl.BatchTail)
	}
	all := smallBatch()
	refusesBatch(t, "two changed for each other", fileWith(all[0], all[2], all[1], all[3], all[4], all[5]), impl.BatchTail)
	refusesBatch(t, "the outer two changed for each other", fileWith(all[0], all[4], all[2], all[3], all[1], all[5]), impl.BatchTail)
	refusesBatch(t, "one lacking", fileWith(all[0], all[1], all[3], all[4], all[5]), impl.BatchTail)
	refusesBatch(t, "one lacking that has no amount, and so told", fileWith(all[0], all[1], all[3], all[4], tailText("350", 3)), impl.BatchTail)
	refusesBatch(t, "one twice", fileWith(all[0], all[1], all[2], all[2], all[3], all[4], all[5]), impl.BatchTail)
	refusesBatch(t, "one twice, and so told", fileWith(all[0], all[1], all[2], all[2], all[3], all[4], tailText("350", 5)), impl.BatchTail)
	if got, code := impl.ReadBatch(fileWith(all[0], all[1], all[2], all[3], tailText("350", 3))); code != impl.BatchOk || len(got) != 3 {
		t.Errorf("without the last message, and so told: %d messages, code %d", len(got), code)
	}
}

// A file without places may be full, so that with them it would have more than MaxFile bytes.
func TestReadBatchOfAFullFileWithoutPlaces(t *testing.T) {
	records, count := []string{headText}, 0
	for size := 70; size+22+999 <= mostBlocks*pieceSize; size += 19 + 999 {
		records = append(records, packed(5, fieldOf(48, somePlain(999, count))))
		count++
	}
	s := fileWith(append(records, tailText("0", count))...)
	if len(s) != mostBlocks*blockSize {
		t.Fatalf("the file has %d bytes", len(s))
	}
	refusesBatch(t, "a full file without places", s, impl.BatchTail)
}

func TestReadBatchMessages(t *testing.T) {
	wrong := []string{"a", "ab", "1644", headText[:25], headText + "x", smallBatch()[1] + "\x00", "x" + smallBatch()[1], strings.Repeat("\x00", 3000), strings.Repeat("@", 3000)}
	for k, record := range wrong {
		for i := range smallBatch() {
			refusesBatch(t, fmt.Sprintf("record %d is no message (%d)", i, k), changed(i, record), impl.BatchMsg)
			more := slices.Insert(smallBatch(), i, record)
			refusesBatch(t, fmt.Sprintf("a record ahead of record %d is no message (%d)", i, k), fileWith(more...), impl.BatchMsg)
		}
		refusesBatch(t, fmt.Sprintf("one record that is no message (%d)", k), fileWith(record), impl.BatchMsg)
		refusesBatch(t, fmt.Sprintf("the first, and one that is no message (%d)", k), fileWith(headText, record), impl.BatchMsg)
		refusesBatch(t, fmt.Sprintf("behind the last one that is no message (%d)", k), fileWith(append(smallBatch(), record)...), impl.BatchMsg)
	}
}

func TestReadBatchFile(t *testing.T) {
	s := fileWith(smallBatch()...)
	all := fileWith(append(append([]string{headText}, slices.Repeat(smallBatch()[1:2], mostRecords-1)...), tailText("0", 199))...)
	for i, bad := range []string{"", "a", s[:blockSize-1], s + "@", s + s, s + fileOf(fillingPiece), s[:blockSize-1] + "x", s[:blockSize-3] + "x@@", fileOf(fillingPiece), fileOf(laidOf(smallBatch()...)), all, headText, strings.Repeat("@", mostFile), strings.Repeat(s, 100)} {
		refusesBatch(t, fmt.Sprint("no file ", i), bad, impl.BatchFile)
		if _, code := impl.Unblock(bad); code == impl.FileOk {
			t.Errorf("file %d is one", i)
		}
	}
}

// Each fault alone and with each other one: the one that is named first is told.
func TestReadBatchFirstFault(t *testing.T) {
	for faults := range 16 {
		records, want := smallBatch(), impl.BatchOk
		if faults&8 != 0 {
			records[5], want = tailText("351", 4), impl.BatchTail
		}
		if faults&4 != 0 {
			records[0], want = packed(1644, fieldOf(24, "696"), fieldOf(71, "00000001")), impl.BatchHead
		}
		if faults&2 != 0 {
			records[3], want = "no message", impl.BatchMsg
		}
		s := fileWith(records...)
		if faults&1 != 0 {
			s, want = s[:blockSize-1]+"x", impl.BatchFile
		}
		if _, code := impl.ReadBatch(s); code != want {
			t.Errorf("faults %04b: code %d, want %d", faults, code, want)
		}
		askReadBatch(t, s)
	}
}

func TestReadBatchCutOff(t *testing.T) {
	for _, list := range [][]impl.Message{nil, payings(1, 2, 3), manyMessages(100)} {
		s, _ := impl.Batch(list)
		for cut := range len(s) {
			refusesBatch(t, fmt.Sprint(cut, " bytes"), s[:cut], impl.BatchFile)
		}
	}
	s := fileWith(smallBatch()...)
	for n := range len(smallBatch()) {
		refusesBatch(t, fmt.Sprint(n, " records"), fileWith(smallBatch()[:n]...), map[bool]int{true: impl.BatchHead, false: impl.BatchTail}[n < 2])
		askReadBatch(t, fileWith(smallBatch()[n:]...))
		askReadBatch(t, fileWith(slices.Delete(smallBatch(), n, n+1)...))
	}
	askReadBatch(t, s)
}

func TestReadBatchWithOneByteChanged(t *testing.T) {
	for _, records := range [][]string{{headText, tailText("0", 0)}, smallBatch()} {
		s := fileWith(records...)
		used := len(laidOf(records...)) + 4
		for i := range len(s) {
			values := []int{0, 65, 255}
			if i < used {
				values = daysFrom(0, 1, 256)
			}
			for _, b := range values {
				askReadBatch(t, s[:i]+oneByte(b)+s[i+1:])
			}
		}
	}
}

func TestReadBatchAnything(t *testing.T) {
	for first := range 256 {
		for _, n := range []int{1, 4, 26, 500, 2000} {
			askReadBatch(t, someText(n, first))
			askReadBatch(t, fileOf(someText(n, first)))
			askReadBatch(t, fileWith(someText(n, first)))
			askReadBatch(t, fileWith(headText, someText(n, first), tailText("0", 1)))
		}
	}
	for _, records := range goodRecords() {
		askReadBatch(t, fileWith(records...))
	}
	for _, m := range goodMessages() {
		askReadBatch(t, fileWith(packed(m.Kind, m.Fields...), packed(m.Kind, m.Fields...)))
		askReadBatch(t, fileWith(headText, packed(m.Kind, m.Fields...), tailText("0", 1)))
	}
}

func TestRecordsAreNotWrittenInto(t *testing.T) {
	for _, records := range slices.Concat(goodRecords(), badRecords()) {
		n := len(records)
		room := append(slices.Clone(records), "kept", "kept too", "", "x")
		kept := slices.Clone(room)
		for range 2 {
			impl.Block(room[:n])
		}
		if !slices.Equal(room, kept) {
			t.Errorf("%d records were written into", n)
		}
	}
}

// cloneMessages is a copy whose fields have spare room behind them, with room of its own too.
func cloneMessages(list []impl.Message) []impl.Message {
	clone := make([]impl.Message, 0, len(list)+3)
	for _, m := range append(slices.Clone(list), impl.Message{Kind: -7}, paying(77), impl.Message{}) {
		room := append(cloneFields(m.Fields), impl.Field{Num: 71, Data: "kept"}, impl.Field{Num: -5, Data: "kept too"}, impl.Field{})
		clone = append(clone, impl.Message{Kind: m.Kind, Fields: room[:len(m.Fields)]})
	}
	return clone
}

func sameWithRoom(a, b impl.Message) bool {
	n := len(a.Fields)
	return a.Kind == b.Kind && n == len(b.Fields) && slices.Equal(a.Fields[:n+3], b.Fields[:n+3])
}

func TestMessagesAreNotWrittenInto(t *testing.T) {
	for _, list := range slices.Concat(goodBatches(), badBatches()) {
		if len(list) > 2*mostRecords {
			continue
		}
		room, kept := cloneMessages(list), cloneMessages(list)
		for range 2 {
			impl.Batch(room[:len(list)])
		}
		if !slices.EqualFunc(room, kept, sameWithRoom) {
			t.Errorf("%d messages were written into", len(list))
		}
	}
}

func TestRecordsAreNewMemory(t *testing.T) {
	for _, records := range goodRecords() {
		s, _ := impl.Block(records)
		one, _ := impl.Unblock(s)
		two, _ := impl.Unblock(s)
		for i := range one {
			if shares(s, records[i]) || len(one[i]) > 1 && (shares(one[i], s) || shares(one[i], two[i]) || i > 0 && shares(one[i], one[i-1])) {
				t.Errorf("record %d of %d shares memory", i, len(records))
			}
		}
		for i := range one[:cap(one)] {
			one[:cap(one)][i] = "changed"
		}
		if !slices.Equal(two, records) {
			t.Errorf("two answers of Unblock share memory")
		}
	}
}

func TestMessagesOfABatchAreNewMemory(t *testing.T) {
	for _, list := range goodBatches() {
		s, _ := impl.Batch(list)
		one, _ := impl.ReadBatch(s)
		two, _ := impl.ReadBatch(s)
		for i, m := range one {
			for k, f := range m.Fields {
				if len(f.Data) > 1 && (shares(f.Data, s) || shares(f.Data, two[i].Fields[k].Data)) {
					t.Errorf("field %d of message %d shares memory", f.Num, i)
				}
			}
		}
		for i, m := range one {
			room := m.Fields[:cap(m.Fields)]
			for k := range room {
				room[k] = impl.Field{Num: i, Data: "changed"}
			}
			for k, f := range m.Fields {
				if f.Num != i {
					t.Errorf("field %d of message %d shares memory with another message", k, i)
				}
			}
		}
		// Each message was written over in turn: none may have got what was written into a later one.
		for i, m := range one {
			if slices.ContainsFunc(m.Fields, func(f impl.Field) bool { return f.Num != i }) {
				t.Errorf("message %d shares memory with a later one", i)
			}
		}
		if !slices.EqualFunc(two, wantPlaced(list), sameMessage) {
			t.Errorf("two answers of ReadBatch share memory")
		}
	}
}

func TestFilesAreNotKept(t *testing.T) {
	good := fileWith(smallBatch()...)
	for i, bad := range []string{"", good[:100], good + good, fileWith("ab"), fileWith(headText), changed(0, smallBatch()[1]), changed(5, smallBatch()[1])} {
		impl.Unblock(bad)
		impl.ReadBatch(bad)
		if got, code := impl.Unblock(good); code != impl.FileOk || !slices.Equal(got, smallBatch()) {
			t.Errorf("behind file %d: %d records, code %d", i, len(got), code)
		}
		if got, code := impl.ReadBatch(good); code != impl.BatchOk || len(got) != 4 {
			t.Errorf("behind file %d: %d messages, code %d", i, len(got), code)
		}
	}
	records := []string{"ab"}
	first, _ := impl.Block(records)
	records[0] = "cd"
	second, _ := impl.Block(records)
	if first != fileWith("ab") || second != fileWith("cd") {
		t.Errorf("%q and %q", first[:12], second[:12])
	}
}
