package tests

import (
	"math/rand"
	"reflect"
	"slices"
	"strings"
	"testing"

	"loop.example/g00084/impl"
)

func clerksThatAreNotGood() map[string][]impl.Clerk {
	change := func(change func(l []impl.Clerk)) []impl.Clerk {
		l := fiveClerks()
		change(l)
		return l
	}
	return map[string][]impl.Clerk{
		"one more":                   manyClerks(21),
		"many more":                  make([]impl.Clerk, 100000),
		"nothing in it":              make([]impl.Clerk, 1),
		"two alike":                  clerks(openClerk("Ann", 1), openClerk("Ann", 1)),
		"two alike but for the rest": clerks(openClerk("Ann", 1), settledClerk("Ann", 2, impl.Answer{Price: 1})),
		"falling":                    clerks(openClerk("Bo", 1), openClerk("Ann", 1)),
		"falling at the end":         change(func(l []impl.Clerk) { l[3], l[4] = l[4], l[3] }),
		"the first without a name":   change(func(l []impl.Clerk) { l[0].Name = "" }),
		"a name of 13":               change(func(l []impl.Clerk) { l[2].Name = "Cyyyyyyyyyyyy" }),
		"a digit in a name":          change(func(l []impl.Clerk) { l[2].Name = "Cy1" }),
		"a letter of two bytes":      change(func(l []impl.Clerk) { l[4].Name = "E\u00e9" }),
		"a byte 0":                   change(func(l []impl.Clerk) { l[4].Name = "Ed\x00" }),
		"Number 0":                   change(func(l []impl.Clerk) { l[0].Number = 0 }),
		"Number 0 of an open one":    change(func(l []impl.Clerk) { l[4].Number = 0 }),
		"Number below 0":             change(func(l []impl.Clerk) { l[2].Number = -3 }),
		"Number too great":           change(func(l []impl.Clerk) { l[3].Number = 1000001 }),
		"the greatest Number":        change(func(l []impl.Clerk) { l[4].Number = 1<<63 - 1 }),
		"the least Number":           change(func(l []impl.Clerk) { l[0].Number = -1 << 63 }),
		"open with a Code":           change(func(l []impl.Clerk) { l[1].Answer.Code = 1 }),
		"open with a Name":           change(func(l []impl.Clerk) { l[4].Answer.Name = -1 }),
		"open with a Price":          change(func(l []impl.Clerk) { l[0].Open = true }),
		"open with a Row":            change(func(l []impl.Clerk) { l[4].Answer.Rows = make([]impl.Row, 1) }),
		"open with Rows":             change(func(l []impl.Clerk) { l[2].Open = true }),
	}
}

func TestClerksThatAreNotGood(t *testing.T) {
	want := clerksAnswers{AskCode: impl.ClerkBad, SettleCode: impl.ClerkBad}
	for what, l := range clerksThatAreNotGood() {
		if goodClerksByWords(l) {
			t.Error("good by the words:", what)
		}
		for _, name := range []string{"Ann", "Bo", "Cy", "Di", "Ed", "Zoe", "", "Cy1", "Clerka", "Clerkc"} {
			for _, number := range append(numbersFarOut(), 0, 1, 2, 3, 4, 1000000, 1000001) {
				r := checkClerks(t, what, clerksGiven{Clerks: l, Name: name, Number: number, Answer: impl.Answer{Price: 3, Rows: twoRows()}})
				if !sameClerksAnswers(r, want) {
					t.Errorf("%s, %q, %d: %+v", what, name, number, r)
				}
			}
		}
	}
}

// Every field of all that is given is changed, one after the other.
func TestEveryChangeOfClerksAgainstTheWords(t *testing.T) {
	g := clerksGiven{Clerks: fiveClerks(), Answer: impl.Answer{Code: 1, Name: 2, Price: 3, Rows: twoRows()}}
	numbers := append(numbersFarOut(), 0, 1, 2, 999999, 1000000, 1000001)
	texts := append(textsForFields(), "Ann", "Bo", "Cy", "Di", "Ed", "Al", "\xff", "B\x00", strings.Repeat("a", 13))
	good, wrong, codes := 0, 0, map[int]int{}
	check := func(what string) {
		for _, name := range []string{"Ann", "Bo", "Cy", "Ed", "Zoe", g.Name} {
			for _, number := range []int{1, 2, 3, 4, g.Number} {
				c := g
				c.Name, c.Number = name, number
				r := checkClerks(t, what, c)
				codes[r.AskCode]++
			}
		}
		good, wrong = good+count(impl.GoodClerks(g.Clerks)), wrong+count(!impl.GoodClerks(g.Clerks))
	}
	eachChange(reflect.ValueOf(&g).Elem(), "given", numbers, texts, check)
	if good < 100 || wrong < 100 {
		t.Error(good, wrong)
	}
	for code := impl.ClerkNew; code <= impl.ClerkOpen; code++ {
		if codes[code] < 100 {
			t.Error(codes)
		}
	}
	if !sameClerks(g.Clerks, fiveClerks()) {
		t.Error(g)
	}
}

// Texts of any bytes, numbers of any size.
func TestAnyNamesAndNumbersOfClerks(t *testing.T) {
	r := rand.New(rand.NewSource(100))
	letters := []byte("ABab@[`{z0 \n\x00\x7f\x80\xc3\xa9\xff")
	text := func() string {
		b := make([]byte, r.Intn(15))
		span := 4 + r.Intn(2)*r.Intn(len(letters)-3)
		for i := range b {
			b[i] = letters[r.Intn(span)]
		}
		return string(b)
	}
	number := func() int {
		if r.Intn(3) == 0 {
			return int(r.Uint64())
		}
		return r.Intn(8) - 2
	}
	good, known := 0, 0
	for range 30000 {
		g := clerksGiven{Name: text(), Number: number(), Answer: someAnswers()[r.Intn(5)]}
		for range r.Intn(4) {
			c := impl.Clerk{Name: text(), Number: number(), Open: r.Intn(2) == 0}
			if r.Intn(3) == 0 {
				c.Answer = someAnswers()[r.Intn(5)]
			}
			if r.Intn(3) == 0 {
				c.Name = g.Name
			}
			g.Clerks = append(g.Clerks, c)
		}
		if r.Intn(2) == 0 {
			slices.SortFunc(g.Clerks, func(a, b impl.Clerk) int { return strings.Compare(a.Name, b.Name) })
		}
		got := checkClerks(t, "any bytes", g)
		good, known = good+count(got.Good && len(g.Clerks) > 0), known+count(got.Good && clerkAtByWords(g.Clerks, g.Name) >= 0)
	}
	if good < 500 || known < 100 {
		t.Error(good, known)
	}
}

// Every list of at most two small clerks, with each way to ask.
func TestSmallListsOfClerksAllOfThem(t *testing.T) {
	var kinds []impl.Clerk
	for _, name := range []string{"", "A", "B", "A1"} {
		for _, number := range []int{0, 1, 2, 1000000} {
			kinds = append(kinds, openClerk(name, number), settledClerk(name, number, impl.Answer{}), settledClerk(name, number, impl.Answer{Rows: twoRows()}), impl.Clerk{Name: name, Number: number, Open: true, Answer: impl.Answer{Price: 1}})
		}
	}
	good := 0
	for _, l := range lists(kinds, 2) {
		good += count(goodClerksByWords(l))
		for _, name := range []string{"A", "B", "C"} {
			for _, number := range []int{1, 2, 3} {
				checkClerks(t, "small", clerksGiven{Clerks: l, Name: name, Number: number, Answer: impl.Answer{Code: 2}})
			}
		}
	}
	if good != 1+2*9+9*9 {
		t.Error(good)
	}
}

// Memory.

// eachClerksForMemory has clerks that are good and not, that ask, ask again and are settled, with Rows and without.
func eachClerksForMemory(do func(g clerksGiven)) {
	all := [][]impl.Clerk{nil, fiveClerks(), manyClerks(19), manyClerks(20), manyClerks(21), clerks(openClerk("Bo", 2)), clerks(settledClerk("Cy", 3, impl.Answer{Rows: twoRows()}), settledClerk("Di", 3, impl.Answer{Rows: twoRows()[1:]}), openClerk("Ed", 1))}
	for _, l := range clerksThatAreNotGood() {
		if len(l) <= 21 {
			all = append(all, l)
		}
	}
	for _, l := range all {
		for _, name := range []string{"Al", "Ann", "Bo", "Cy", "Di", "Ed", "Zoe", "Clerka", "Clerkc", "A n"} {
			for _, number := range []int{0, 1, 3, 4} {
				for _, a := range []impl.Answer{{}, {Code: 2}, {Rows: twoRows()}} {
					do(clerksGiven{Clerks: l, Name: name, Number: number, Answer: a})
				}
			}
		}
	}
}

func TestClerksForMemoryMeetAll(t *testing.T) {
	asked, settled, rows, wrong := map[int]int{}, map[int]int{}, 0, 0
	eachClerksForMemory(func(g clerksGiven) {
		r := checkClerks(t, "for memory", g)
		asked[r.AskCode]++
		settled[r.SettleCode]++
		rows, wrong = rows+len(r.Again.Rows), wrong+count(!r.Good)
	})
	for code := impl.ClerkNew; code <= impl.ClerkOpen; code++ {
		if asked[code] == 0 {
			t.Error(asked)
		}
	}
	if settled[impl.ClerkNew] == 0 || settled[impl.ClerkLate] == 0 || settled[impl.ClerkBad] == 0 || rows == 0 || wrong == 0 {
		t.Error(settled, rows, wrong)
	}
}

func TestNothingIsWrittenIntoClerks(t *testing.T) {
	eachClerksForMemory(func(given clerksGiven) {
		for _, junk := range []int{0, 1, -1} {
			g := roomy(given, junk)
			was := allIn(g)
			askClerks(g)
			if now := allIn(g); now != was {
				t.Fatalf("was\n%s, is\n%s", was, now)
			}
		}
	})
}

func TestRoomBehindClerksIsNotRead(t *testing.T) {
	eachClerksForMemory(func(given clerksGiven) {
		want := askClerks(given)
		for _, junk := range []int{0, 1, -1, 77} {
			if got := askClerks(roomy(given, junk)); !sameClerksAnswers(got, want) {
				t.Fatalf("%+v:\n%+v, not\n%+v", given, got, want)
			}
		}
	})
}

// Not even the room behind two lists is the same.
func TestAnswersOfClerksShareNothing(t *testing.T) {
	eachClerksForMemory(func(given clerksGiven) {
		for _, junk := range []int{0, 1} {
			g := roomy(given, junk)
			wantApart(t, "the clerks' answers", askClerks(g), askClerks(g), g)
		}
	})
}

// Nothing that was given lies behind the lists that are handed out.
func TestNothingIsHandedOutBehindClerks(t *testing.T) {
	eachClerksForMemory(func(given clerksGiven) {
		want := allIn(askClerks(given))
		for _, junk := range []int{0, -77} {
			if got := allIn(askClerks(roomy(given, junk))); got != want {
				t.Fatalf("%s, not\n%s", got, want)
			}
		}
	})
}

func TestAnswersOfClerksStayWhenTheArgumentsChange(t *testing.T) {
	eachClerksForMemory(func(given clerksGiven) {
		g := roomy(given, 1)
		got := askClerks(g)
		want := allIn(got)
		scribbleAll(reflect.ValueOf(&g).Elem())
		if allIn(got) != want {
			t.Fatalf("%+v, not\n%s", got, want)
		}
	})
}

// What is done with one list of an answer is not to be seen in any other.
func TestAnswersOfClerksStayWhenOthersChange(t *testing.T) {
	eachClerksForMemory(func(g clerksGiven) {
		r := askClerks(g)
		want := clerksByWords(g)
		scribbleAll(reflect.ValueOf(&r.Again).Elem())
		r.Again = want.Again
		if !sameClerksAnswers(r, want) {
			t.Fatalf("%+v, not\n%+v", r, want)
		}
		scribbleAll(reflect.ValueOf(&r.Asked).Elem())
		if r.Asked = want.Asked; !sameClerksAnswers(r, want) || !sameClerksAnswers(askClerks(g), want) {
			t.Fatalf("%+v, not\n%+v", r, want)
		}
	})
}

// Rows of an argument that lie in one piece of memory are apart in the answer.
func TestClerksWhoseRowsShareMemory(t *testing.T) {
	rows := twoRows()
	l := clerks(settledClerk("Ann", 1, impl.Answer{Rows: rows}), settledClerk("Bo", 1, impl.Answer{Rows: rows[:1]}), openClerk("Cy", 1), settledClerk("Di", 1, impl.Answer{Rows: rows[1:]}))
	for _, name := range []string{"Al", "Ann", "Bo", "Cy", "Di", "Zoe", ""} {
		for _, number := range []int{0, 1, 2, 3} {
			g := clerksGiven{Clerks: l, Name: name, Number: number, Answer: impl.Answer{Rows: rows}}
			checkClerks(t, "rows that share", g)
			wantApart(t, "rows that share", askClerks(g), g, rows)
		}
	}
}

func TestEmptyAndNilListsOfClerksAreTheSame(t *testing.T) {
	none, empty := openClerk("Ann", 1), openClerk("Ann", 1)
	empty.Answer.Rows = []impl.Row{}
	for _, two := range [][2]clerksGiven{
		{{Name: "Ann", Number: 1}, {Clerks: []impl.Clerk{}, Name: "Ann", Number: 1}},
		{{Clerks: clerks(none), Name: "Ann", Number: 1}, {Clerks: clerks(empty), Name: "Ann", Number: 1, Answer: impl.Answer{Rows: []impl.Row{}}}},
		{{Clerks: clerks(settledClerk("Ann", 1, impl.Answer{})), Name: "Ann", Number: 1}, {Clerks: clerks(settledClerk("Ann", 1, impl.Answer{Rows: []impl.Row{}})), Name: "Ann", Number: 1}},
	} {
		a, b := checkClerks(t, "nil", two[0]), checkClerks(t, "empty", two[1])
		if !sameClerksAnswers(a, b) || !a.Good || !a.OpenOk {
			t.Errorf("%+v, and %+v", a, b)
		}
	}
}

// What was asked ahead is not to be seen in an answer: nobody is kept, and nobody counted.
func TestClerksHangOnNothingElse(t *testing.T) {
	for range 100 {
		for _, name := range []string{"Ann", "Bo", "Cy"} {
			wantAsked(t, nil, name, 1, clerks(openClerk(name, 1)), impl.Answer{}, impl.ClerkNew)
			wantAsked(t, fiveClerks(), "Cy", 3, fiveClerks(), impl.Answer{Rows: twoRows()}, impl.ClerkAgain)
			wantSettled(t, nil, name, impl.Answer{}, nil, impl.ClerkLate)
			wantOpen(t, fiveClerks(), "Bo", "Ed")
		}
	}
	var all []clerksGiven
	var first []clerksAnswers
	eachClerksForMemory(func(g clerksGiven) {
		all, first = append(all, g), append(first, askClerks(g))
	})
	for i := len(all) - 1; i >= 0; i-- {
		if again := askClerks(all[i]); !sameClerksAnswers(again, first[i]) {
			t.Fatalf("%+v: %+v, and then %+v", all[i], first[i], again)
		}
	}
}
