package tests

import (
	"math/rand"
	"reflect"
	"slices"
	"strings"
	"testing"
	"unsafe"

	"loop.example/g00084/impl"
)

func TestOperationsThatAreNotGoodHaveNoText(t *testing.T) {
	for kind, op := range goodOps() {
		wantSameOp(t, op)
		for _, wrong := range append(numbersFarOut(), 0, 10, 256+kind) {
			op.Kind = wrong
			wantNoOpText(t, op)
		}
	}
	wantNoOpText(t, impl.Op{})
	numbers := append(numbersFarOut(), 0, 1, 2, 4, 5, 9, 20, 21, 30, 31, 500, 501, 2000, 2001, 9999, 10000, 99999, 100000)
	good, none := 0, 0
	for _, op := range append(oneOfEach(), hold("Ann", 5, withWhole(withCar(people(1), 1, 1), 1), 1, 2, 4), amend(1, everything(), 9)) {
		eachChange(reflect.ValueOf(&op).Elem(), "the operation", numbers, append(textsForFields(), textsThatAreNoNames()...), func(what string) {
			got := checkLines(t, linesGiven{Op: op})
			good, none = good+count(got.OpTold), none+count(!got.OpTold)
			if got.OpTold {
				if back, read := impl.ReadOp(got.OpText); !read || !sameOp(back, op) {
					t.Fatal(what, op, got.OpText, back, read)
				}
			}
		})
	}
	if good < 200 || none < 1000 {
		t.Error(good, none)
	}
}

func TestSailingsThatAreNotGoodHaveNoText(t *testing.T) {
	for what, s := range sailingsThatAreNotGood() {
		if text, good := impl.SailText(s); good || text != "" {
			t.Errorf("%s: %q, %v", what, text, good)
		}
	}
	numbers := append(numbersFarOut(), 0, 1, 3, 4, 5, 6, 99, 100, 101, 500, 501, 5000, 5001, 9999, 10000, 99999, 100000)
	good, none := 0, 0
	s := fullSailing(50)
	eachChange(reflect.ValueOf(&s).Elem(), "the sailing", numbers, append(textsForFields(), textsThatAreNoNames()...), func(what string) {
		got := checkLines(t, linesGiven{Sailing: s})
		good, none = good+count(got.SailTold), none+count(!got.SailTold)
		if got.SailTold {
			if back, read := impl.ReadSail(got.SailText); !read || !sameSailings([]impl.Sailing{back}, []impl.Sailing{s}) {
				t.Fatal(what, s, got.SailText, back, read)
			}
		}
	})
	if good < 50 || none < 200 {
		t.Error(good, none)
	}
}

// Texts of any bytes, also with bytes that are no rune.
func TestTextsOfAnyBytes(t *testing.T) {
	r := rand.New(rand.NewSource(3))
	alphabets := []string{"\x00\n \xff\xc3\xa9", "01 ,/+@x-\n", "quoteholdbk 12,\n", "sail OK12/-\n"}
	for b := range 256 {
		for c := range 256 {
			checkLines(t, linesGiven{Text: string([]byte{byte(b), byte(c)})})
		}
	}
	for range 20000 {
		text := make([]byte, r.Intn(30))
		letters := alphabets[r.Intn(len(alphabets))]
		for i := range text {
			text[i] = letters[r.Intn(len(letters))]
			if r.Intn(20) == 0 {
				text[i] = byte(r.Intn(256))
			}
		}
		checkLines(t, linesGiven{Text: string(text)})
		checkLines(t, linesGiven{Text: string(text) + "\n"})
	}
	for _, letters := range alphabets {
		for _, many := range []int{1000, 2000, 4000, 100000} {
			checkLines(t, linesGiven{Text: strings.Repeat(letters, many/len(letters)) + "\n"})
			checkLines(t, linesGiven{Text: strings.Repeat(letters, many/len(letters))})
		}
	}
	for _, start := range []string{"quote ", "quote 1", "quote 1 ", "book ", "confirm ", "sail 1 Oslo Kiel 1 2 3 ", "sail 1 Oslo Kiel 1 2 3 - ", "sail "} {
		for _, more := range []string{"1", "0", " ", ",", "1,", "1/1,", "a", "-", "\xff", "+1/1", "@1x"} {
			checkReadOp(t, start+strings.Repeat(more, 30000))
			checkReadSail(t, start+strings.Repeat(more, 30000))
		}
	}
}

// Every change of a script that has lines of each kind.
func TestEveryChangeOfAScript(t *testing.T) {
	text := script(osloKiel, "new book Ann 1 2", "new hold Bo 1 1+1/1 9", "run 0", "run 1", "run 0", "ready", "see 1", "finish", "done", "answer 1", "new amend 1 1 1", "run 0", "abort 0", "left 1")
	scripts := 0
	eachText(text, []byte("\n 019,-x\xff"), []string{"", "0", "1", "12", "new", "run", "finish", "fly"}, func(text string) {
		scripts += count(checkLines(t, linesGiven{Text: text}).OfficeTold)
	})
	lines := strings.SplitAfter(text, "\n")
	for i := range lines {
		for j := range lines {
			turned := slices.Clone(lines)
			turned[i], turned[j] = turned[j], turned[i]
			checkLines(t, linesGiven{Text: strings.Join(turned, "")})
		}
		checkLines(t, linesGiven{Text: strings.Join(slices.Delete(slices.Clone(lines), i, i+1), "")})
	}
	if scripts < 2000 {
		t.Error(scripts)
	}
}

// eachLinesForMemory meets answers of each kind, and those to what is wrong.
func eachLinesForMemory(t *testing.T, do func(g linesGiven)) {
	ops := append(oneOfEach(), book("Ann", family(), 1, 2, 4), quote(people(1), -1), quote(people(1), 1, 100000), manifest(99999), impl.Op{Kind: impl.OpConfirm, Name: 1, Legs: []int{1, 2}})
	sailings := append(ferries(), fullSailing(50), sail(1, "Oslo", "Kiel", 1, 2), impl.Sailing{}, changed(func(s *impl.Sailing) { s.Lanes[2].Height = 0 }), changed(func(s *impl.Sailing) { s.Cabins[0].Class = 4 }))
	texts := append(goodOpTexts(), "", "fly", "quote 1 0", "sail 1 Oslo Kiel 0 1 0 - -", "sail 50 Oslo Kiel 10 20 120 900/220,1/100,5000/500 1/4,2/2,3/1", "sail 1 Oslo Kiel 0 1 0 1/100,- -", "ready", "\xff\n", script(osloKiel, kielAber))
	work := append(sailLines(t, ferries()...), "new book Ann 1,2 2+400/150@1x2", "new book Bo 1 1+100/100@1x1", "finish", "new amend 1 1,2,4 1+100/100@1x1", "new cancel 2 0", "new quote 2 1", "new manifest 1")
	for range 16 {
		texts = append(texts, script(work...))
		work = append(work, "run 0", "run 1", "run 2", "run 3")
	}
	r := rand.New(rand.NewSource(9))
	for range 30 {
		texts = append(texts, randomScript(r, 190))
	}
	for i := range max(len(ops), len(sailings), len(texts)) {
		do(linesGiven{ops[i%len(ops)], sailings[i%len(sailings)], texts[i%len(texts)]})
	}
}

func TestLinesForMemoryMeetAll(t *testing.T) {
	told, read, sailed, found, offices, bookings := 0, 0, 0, 0, 0, 0
	eachLinesForMemory(t, func(g linesGiven) {
		got := checkLines(t, g)
		told, read, sailed, found = told+count(got.OpTold), read+count(got.OpRead), sailed+count(got.SailTold), found+count(got.SailRead)
		offices, bookings = offices+count(got.OfficeTold), bookings+len(got.Office.Bookings)
	})
	if told < 20 || read < 12 || sailed < 20 || found < 2 || offices < 40 || bookings < 50 {
		t.Error(told, read, sailed, found, offices, bookings)
	}
}

func TestNothingIsWrittenIntoWhatIsTold(t *testing.T) {
	eachLinesForMemory(t, func(given linesGiven) {
		for _, junk := range []int{0, 1, -1} {
			g := roomy(given, junk)
			was := allIn(g)
			askLines(g)
			if now := allIn(g); now != was {
				t.Fatalf("was\n%s, is\n%s", was, now)
			}
		}
	})
}

func TestRoomBehindWhatIsToldIsNotRead(t *testing.T) {
	eachLinesForMemory(t, func(given linesGiven) {
		want := inWords(askLines(given))
		for _, junk := range []int{0, 1, -1, 2} {
			if got := inWords(askLines(roomy(given, junk))); got != want {
				t.Fatalf("%s, not\n%s", got, want)
			}
		}
	})
}

// Not even the room behind two lists is the same.
func TestWhatIsReadSharesNothing(t *testing.T) {
	eachLinesForMemory(t, func(given linesGiven) {
		g := roomy(given, 1)
		first, second := askLines(g), askLines(g)
		wantApart(t, "what is read", first, second, g)
	})
}

// textsIn are all texts in a value, those in lists too.
func textsIn(v reflect.Value) []string {
	var all []string
	switch v.Kind() {
	case reflect.Struct:
		for i := range v.NumField() {
			all = append(all, textsIn(v.Field(i))...)
		}
	case reflect.Slice:
		for i := range v.Len() {
			all = append(all, textsIn(v.Index(i))...)
		}
	case reflect.String:
		all = append(all, v.String())
	}
	return all
}

// The names in an answer are no pieces of the text that they were read from.
func TestNamesShareNothingWithTheText(t *testing.T) {
	names := 0
	eachLinesForMemory(t, func(g linesGiven) {
		from := uintptr(unsafe.Pointer(unsafe.StringData(g.Text)))
		got := askLines(g)
		for _, text := range slices.Concat(textsIn(reflect.ValueOf(got.Op)), textsIn(reflect.ValueOf(got.Sailing)), textsIn(reflect.ValueOf(got.Office)), []string{got.Desk}) {
			at := uintptr(unsafe.Pointer(unsafe.StringData(text)))
			if text != "" && at >= from && at < from+uintptr(len(g.Text)) {
				t.Fatalf("%q lies in %q", text, g.Text)
			}
			names++
		}
	})
	if names < 300 {
		t.Error(names)
	}
}

func TestWhatIsReadStaysWhenTheArgumentsChange(t *testing.T) {
	eachLinesForMemory(t, func(given linesGiven) {
		g := roomy(given, 1)
		got := askLines(g)
		want := inWords(got)
		scribbleAll(reflect.ValueOf(&g).Elem())
		if inWords(got) != want {
			t.Fatalf("%+v, not\n%s", got, want)
		}
	})
}

func TestEmptyAndNilListsOfTextsAreTheSame(t *testing.T) {
	op, s := confirm(1), sail(1, "Oslo", "Kiel", 1, 2)
	op.Legs, s.Lanes, s.Cabins = []int{}, []impl.Lane{}, []impl.Cabin{}
	wantOpText(t, op, "confirm 1")
	wantSailText(t, s, "sail 1 Oslo Kiel 1 2 0 - -")
	wantOpText(t, confirm(1), "confirm 1")
	wantSailText(t, sail(1, "Oslo", "Kiel", 1, 2), "sail 1 Oslo Kiel 1 2 0 - -")
	none := quote(people(1))
	none.Legs = []int{}
	wantNoOpText(t, none)
	wantNoOpText(t, quote(people(1)))
}

// What was asked ahead is not to be seen in an answer.
func TestLinesHangOnNothingElse(t *testing.T) {
	var all []linesGiven
	var first []string
	eachLinesForMemory(t, func(g linesGiven) {
		all = append(all, g)
		first = append(first, inWords(askLines(g)))
	})
	for i := len(all) - 1; i >= 0; i-- {
		impl.RunDesk(script(osloKiel, "new book Ann 1 5", "finish"))
		if again := inWords(askLines(all[i])); again != first[i] {
			t.Fatalf("%s, and then %s", first[i], again)
		}
	}
}
