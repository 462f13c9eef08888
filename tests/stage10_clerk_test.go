package tests

import (
	"fmt"
	"math/rand"
	"slices"
	"strings"
	"testing"

	"loop.example/g00084/impl"
)

func TestConstantsOfClerks(t *testing.T) {
	got := []int{impl.MaxClerks, impl.ClerkNew, impl.ClerkAgain, impl.ClerkBad, impl.ClerkLate, impl.ClerkAhead, impl.ClerkOpen}
	if want := []int{20, 0, 1, 2, 3, 4, 5}; !slices.Equal(got, want) {
		t.Error(got)
	}
}

func wantGoodClerks(t *testing.T, what string, l []impl.Clerk, want bool) {
	t.Helper()
	if got := impl.GoodClerks(l); got != want || goodClerksByWords(l) != want {
		t.Errorf("%s: %+v: %v", what, l, got)
	}
	checkClerks(t, what, clerksGiven{Clerks: l, Name: "Ann", Number: 1})
	checkClerks(t, what, clerksGiven{Clerks: l, Name: "Zoe", Number: 1})
}

func TestHowManyClerksAreGood(t *testing.T) {
	wantGoodClerks(t, "none", nil, true)
	wantGoodClerks(t, "an empty list", []impl.Clerk{}, true)
	for many := range 20 {
		wantGoodClerks(t, "some", manyClerks(many+1), true)
	}
	wantGoodClerks(t, "one more", manyClerks(21), false)
	wantGoodClerks(t, "two more", manyClerks(22), false)
	wantGoodClerks(t, "many more", make([]impl.Clerk, 1000), false)
}

func TestNamesOfClerksRise(t *testing.T) {
	named := func(names ...string) []impl.Clerk {
		var l []impl.Clerk
		for _, name := range names {
			l = append(l, settledClerk(name, 1, impl.Answer{}))
		}
		return l
	}
	for _, names := range [][]string{{"Ann", "Bo", "Cy"}, {"A", "AA", "AAA"}, {"Ann", "Anna"}, {"Z", "a"}, {"ANN", "ANn", "Ann", "aNN"}, {"Zoe", "ann"}, {"Abc", "Abd", "Ac"}, {"abcdefghijkk", "abcdefghijkl"}} {
		wantGoodClerks(t, "rising", named(names...), true)
		turned := slices.Clone(names)
		slices.Reverse(turned)
		wantGoodClerks(t, "falling", named(turned...), false)
		for i, name := range names {
			wantGoodClerks(t, "twice", named(slices.Insert(slices.Clone(names), i, name)...), false)
			wantGoodClerks(t, "once more at the end", named(append(slices.Clone(names), name)...), false)
			wantGoodClerks(t, "once more at the front", named(append([]string{name}, names...)...), false)
		}
	}
	wantGoodClerks(t, "the last two turned", named("Ann", "Cy", "Bo"), false)
	wantGoodClerks(t, "the first two turned", named("Bo", "Ann", "Cy"), false)
}

func TestNamesOfClerksAreNames(t *testing.T) {
	for _, name := range textsThatAreNames() {
		wantGoodClerks(t, name, clerks(settledClerk(name, 1, impl.Answer{})), true)
		wantGoodClerks(t, name, clerks(openClerk(name, 1)), true)
	}
	for _, name := range textsThatAreNoNames() {
		wantGoodClerks(t, name, clerks(settledClerk(name, 1, impl.Answer{})), false)
		wantGoodClerks(t, name, clerks(openClerk(name, 1)), false)
		rising := clerks(openClerk("M", 1), openClerk(name, 1))
		slices.SortFunc(rising, func(a, b impl.Clerk) int { return strings.Compare(a.Name, b.Name) })
		wantGoodClerks(t, name, rising, false)
	}
}

func TestNumbersOfClerks(t *testing.T) {
	for _, open := range []bool{false, true} {
		for _, number := range []int{1, 2, 999999, 1000000} {
			wantGoodClerks(t, "a number", clerks(impl.Clerk{Name: "Ann", Number: number, Open: open}), true)
		}
		for _, number := range []int{0, -1, -1000000, 1000001, 1000002, 1 << 20, 1 << 32, 1<<32 + 1, -1 << 63, 1<<63 - 1} {
			wantGoodClerks(t, "no number", clerks(impl.Clerk{Name: "Ann", Number: number, Open: open}), false)
			wantGoodClerks(t, "no number at the end", clerks(openClerk("Al", 1), impl.Clerk{Name: "Ann", Number: number, Open: open}), false)
			wantGoodClerks(t, "no number at the front", clerks(impl.Clerk{Name: "Ann", Number: number, Open: open}, openClerk("Bo", 1)), false)
		}
	}
}

// An answer with just one field that is not zero is none for an open clerk.
func TestAnswersOfOpenClerks(t *testing.T) {
	for what, a := range map[string]impl.Answer{
		"a Code": {Code: 1}, "a Code below 0": {Code: -1}, "a Name": {Name: 1}, "a Price": {Price: 1}, "a Price below 0": {Price: -1},
		"a zero Row": {Rows: make([]impl.Row, 1)}, "Rows": {Rows: twoRows()}, "all": {Code: 1, Name: 1, Price: 1, Rows: twoRows()},
	} {
		wantGoodClerks(t, what, clerks(settledClerk("Ann", 1, a)), true)
		c := openClerk("Ann", 1)
		c.Answer = a
		wantGoodClerks(t, what, clerks(c), false)
		wantGoodClerks(t, what, clerks(openClerk("Al", 1), c), false)
		wantGoodClerks(t, what, clerks(c, settledClerk("Bo", 1, a)), false)
	}
	c := openClerk("Ann", 1)
	c.Answer.Rows = []impl.Row{}
	wantGoodClerks(t, "an empty list of Rows", clerks(c), true)
	wantGoodClerks(t, "zero and not open", clerks(settledClerk("Ann", 1, impl.Answer{})), true)
}

// Codes of AskClerk.

func TestClerksThatAreNotKnown(t *testing.T) {
	l := fiveClerks()
	none := impl.Answer{}
	wantAsked(t, nil, "Ann", 1, clerks(openClerk("Ann", 1)), none, impl.ClerkNew)
	wantAsked(t, l, "Al", 1, slices.Insert(copyClerks(l), 0, openClerk("Al", 1)), none, impl.ClerkNew)
	wantAsked(t, l, "Anna", 1, slices.Insert(copyClerks(l), 1, openClerk("Anna", 1)), none, impl.ClerkNew)
	wantAsked(t, l, "Cya", 1, slices.Insert(copyClerks(l), 3, openClerk("Cya", 1)), none, impl.ClerkNew)
	wantAsked(t, l, "E", 1, slices.Insert(copyClerks(l), 4, openClerk("E", 1)), none, impl.ClerkNew)
	wantAsked(t, l, "Eda", 1, append(copyClerks(l), openClerk("Eda", 1)), none, impl.ClerkNew)
	wantAsked(t, l, "ann", 1, append(copyClerks(l), openClerk("ann", 1)), none, impl.ClerkNew)
	wantAsked(t, l, "ANN", 1, slices.Insert(copyClerks(l), 0, openClerk("ANN", 1)), none, impl.ClerkNew)
	for _, number := range []int{2, 3, 999999, 1000000} {
		wantCode(t, nil, "Ann", number, impl.ClerkBad)
		wantCode(t, l, "Al", number, impl.ClerkBad)
		wantCode(t, l, "Zoe", number, impl.ClerkBad)
	}
}

// Each clerk of a list is taken out, and comes new into its old place.
func TestNewClerksArePutInTheirPlace(t *testing.T) {
	for many := 1; many <= 20; many++ {
		l := manyClerks(many)
		for at, c := range l {
			without := slices.Delete(copyClerks(l), at, at+1)
			then := copyClerks(l)
			then[at] = openClerk(c.Name, 1)
			wantAsked(t, without, c.Name, 1, then, impl.Answer{}, impl.ClerkNew)
		}
	}
}

func TestNewClerksWhereThereAreMaxClerks(t *testing.T) {
	l := manyClerks(19)
	then := wantAsked(t, l, "Zoe", 1, append(copyClerks(l), openClerk("Zoe", 1)), impl.Answer{}, impl.ClerkNew)
	for _, full := range [][]impl.Clerk{then, manyClerks(20)} {
		for _, name := range []string{"A", "Clerk", "Clerkaa", "Clerkmm", "Zz", "zoe"} {
			for _, number := range []int{1, 2, 1000000} {
				wantCode(t, full, name, number, impl.ClerkBad)
			}
		}
	}
	// Those of the list may still ask.
	for _, c := range manyClerks(20) {
		full := manyClerks(20)
		wantCode(t, full, c.Name, c.Number+2, impl.ClerkAhead)
		if c.Open {
			wantCode(t, full, c.Name, c.Number, impl.ClerkOpen)
			continue
		}
		wantAsked(t, full, c.Name, c.Number, full, c.Answer, impl.ClerkAgain)
		next := manyClerks(20)
		next[slices.IndexFunc(next, func(x impl.Clerk) bool { return x.Name == c.Name })] = openClerk(c.Name, c.Number+1)
		wantAsked(t, full, c.Name, c.Number+1, next, impl.Answer{}, impl.ClerkNew)
	}
}

func TestNamesAndNumbersThatAskBadly(t *testing.T) {
	for _, l := range [][]impl.Clerk{nil, fiveClerks(), manyClerks(20)} {
		for _, name := range textsThatAreNoNames() {
			for _, number := range []int{0, 1, 2, 1000000} {
				wantCode(t, l, name, number, impl.ClerkBad)
			}
		}
		for _, number := range []int{0, -1, -2, 1000001, 1000002, 1 << 32, 1<<32 + 1, 1<<32 + 2, -1 << 63, 1<<63 - 1} {
			for _, name := range []string{"Ann", "Bo", "Cy", "Di", "Ed", "Zoe", "Clerka", ""} {
				wantCode(t, l, name, number, impl.ClerkBad)
			}
		}
	}
}

func TestCodesOfAClerkOfTheList(t *testing.T) {
	a := impl.Answer{Code: 3, Name: 7, Price: 90, Rows: twoRows()}
	l := clerks(openClerk("Ann", 5), settledClerk("Bo", 5, a), settledClerk("Cy", 5, impl.Answer{}))
	for _, name := range []string{"Ann", "Bo", "Cy"} {
		for _, number := range []int{1, 2, 3, 4} {
			wantCode(t, l, name, number, impl.ClerkLate)
		}
		for _, number := range []int{7, 8, 9, 1000, 1000000} {
			wantCode(t, l, name, number, impl.ClerkAhead)
		}
	}
	wantCode(t, l, "Ann", 5, impl.ClerkOpen)
	wantCode(t, l, "Ann", 6, impl.ClerkOpen)
	wantAsked(t, l, "Bo", 5, l, a, impl.ClerkAgain)
	wantAsked(t, l, "Cy", 5, l, impl.Answer{}, impl.ClerkAgain)
	wantAsked(t, l, "Bo", 6, clerks(l[0], openClerk("Bo", 6), l[2]), impl.Answer{}, impl.ClerkNew)
	wantAsked(t, l, "Cy", 6, clerks(l[0], l[1], openClerk("Cy", 6)), impl.Answer{}, impl.ClerkNew)
}

func TestCodesAtTheLastNumber(t *testing.T) {
	l := fiveClerks()
	wantAsked(t, l, "Di", 1000000, l, impl.Answer{Code: 5}, impl.ClerkAgain)
	wantCode(t, l, "Di", 999999, impl.ClerkLate)
	wantCode(t, l, "Di", 1000001, impl.ClerkBad)
	wantCode(t, l, "Ed", 1000000, impl.ClerkOpen)
	wantCode(t, l, "Ed", 999999, impl.ClerkLate)
	wantCode(t, l, "Ed", 1000001, impl.ClerkBad)
	last := clerks(settledClerk("Ann", 999999, impl.Answer{}))
	wantAsked(t, last, "Ann", 1000000, clerks(openClerk("Ann", 1000000)), impl.Answer{}, impl.ClerkNew)
}

// Where two codes hold at once the one that is told first counts.
func TestPairsOfCodesThatHoldAtOnce(t *testing.T) {
	lists := [][]impl.Clerk{nil, fiveClerks(), manyClerks(20), append(fiveClerks(), openClerk("Bo", 2)), clerks(openClerk("Bo", 2), openClerk("Ann", 1)), clerks(openClerk("B o", 2)), clerks(settledClerk("Ann", 1000001, impl.Answer{Price: 3})), clerks(openClerk("Ann", 0)), manyClerks(21)}
	met := map[[2]int]int{}
	for _, l := range lists {
		for _, name := range []string{"Ann", "Bo", "Cy", "Di", "Ed", "Zoe", "B o", "", "Clerka", "Clerkc", "Clerku"} {
			for _, number := range []int{-1, 0, 1, 2, 3, 4, 5, 23, 999998, 999999, 1000000, 1000001, 1000002, 1000003} {
				codes := codesByWords(l, name, number)
				if _, _, code := impl.AskClerk(l, name, number); code != codes[0] {
					t.Errorf("%+v, %q asks with %d: %d, not the first of %v", l, name, number, code, codes)
				}
				checkClerks(t, "two at once", clerksGiven{Clerks: l, Name: name, Number: number})
				for i, first := range codes {
					for _, second := range codes[i+1:] {
						met[[2]int{first, second}]++
					}
				}
			}
		}
	}
	for _, pair := range [][2]int{
		{impl.ClerkBad, impl.ClerkLate}, {impl.ClerkBad, impl.ClerkAhead}, {impl.ClerkBad, impl.ClerkOpen}, {impl.ClerkBad, impl.ClerkAgain}, {impl.ClerkBad, impl.ClerkNew},
		{impl.ClerkLate, impl.ClerkOpen}, {impl.ClerkAhead, impl.ClerkOpen}, {impl.ClerkOpen, impl.ClerkAgain}, {impl.ClerkOpen, impl.ClerkNew},
	} {
		if met[pair] == 0 {
			t.Error("never at once:", pair)
		}
	}
}

// SettleClerk and OpenClerks.

func TestSettledClerks(t *testing.T) {
	l := fiveClerks()
	for _, a := range append(someAnswers(), impl.Answer{Code: 1, Name: 2, Price: 3, Rows: twoRows()}, impl.Answer{Rows: make([]impl.Row, 500)}, impl.Answer{Rows: []impl.Row{}}) {
		then := copyClerks(l)
		then[1] = settledClerk("Bo", 2, a)
		then = wantSettled(t, l, "Bo", a, then, impl.ClerkNew)
		wantSettled(t, then, "Bo", impl.Answer{Price: 77}, then, impl.ClerkLate)
		wantAsked(t, then, "Bo", 2, then, a, impl.ClerkAgain)
		both := copyClerks(then)
		both[4] = settledClerk("Ed", 1000000, a)
		both = wantSettled(t, then, "Ed", a, both, impl.ClerkNew)
		wantOpen(t, both)
		for _, name := range []string{"Ann", "Cy", "Di", "Zoe", "bo", "B", "Boo", "Al", ""} {
			wantSettled(t, l, name, a, l, impl.ClerkLate)
			wantSettled(t, nil, name, a, nil, impl.ClerkLate)
		}
		for _, name := range textsThatAreNoNames() {
			wantSettled(t, l, name, a, l, impl.ClerkLate)
		}
	}
}

func TestSettledByClerksThatAreNotGood(t *testing.T) {
	for _, l := range [][]impl.Clerk{manyClerks(21), clerks(openClerk("Bo", 1), openClerk("Ann", 1)), clerks(openClerk("Ann", 0)), clerks(openClerk("A n", 1))} {
		for _, name := range []string{"Ann", "Bo", "Zoe", "A n", "", "Clerka", "Clerkc"} {
			wantSettled(t, l, name, impl.Answer{Price: 1, Rows: twoRows()}, nil, impl.ClerkBad)
		}
	}
}

func TestOpenClerks(t *testing.T) {
	wantOpen(t, nil)
	wantOpen(t, []impl.Clerk{})
	wantOpen(t, clerks(settledClerk("Ann", 1, impl.Answer{})))
	wantOpen(t, clerks(openClerk("Ann", 1)), "Ann")
	wantOpen(t, fiveClerks(), "Bo", "Ed")
	var all []impl.Clerk
	var names []string
	for _, c := range manyClerks(20) {
		all, names = append(all, openClerk(c.Name, c.Number)), append(names, c.Name)
		wantOpen(t, all, names...)
	}
	for range 30 { // a map is gone through in any order
		wantOpen(t, all, names...)
	}
	wantOpen(t, clerks(openClerk("ANN", 1), openClerk("Ann", 1), openClerk("Anna", 1), openClerk("Z", 1), openClerk("a", 1)), "ANN", "Ann", "Anna", "Z", "a")
	for subset := range 1 << 6 {
		l := manyClerks(6)
		var open []string
		for i := range l {
			l[i] = settledClerk(l[i].Name, 1, impl.Answer{})
			if subset>>i&1 == 1 {
				l[i].Open = true
				open = append(open, l[i].Name)
			}
		}
		wantOpen(t, l, open...)
	}
}

// Requests that are sent again.

func TestARequestIsAnsweredAsItWas(t *testing.T) {
	answers := []impl.Answer{{Name: 1, Price: 40}, {Code: 4}, {}, {Rows: twoRows()}, {Code: 1, Name: 2, Price: 3, Rows: twoRows()[:1]}}
	l := clerks(openClerk("Al", 7), settledClerk("Zoe", 3, impl.Answer{Rows: twoRows()}))
	for number := 1; number <= 40; number++ {
		a := answers[number%len(answers)]
		l = wantAsked(t, l, "Mo", number, clerks(l[0], openClerk("Mo", number), l[len(l)-1]), impl.Answer{}, impl.ClerkNew)
		wantCode(t, l, "Mo", number, impl.ClerkOpen)
		wantCode(t, l, "Mo", number+1, impl.ClerkOpen)
		wantOpen(t, l, "Al", "Mo")
		l = wantSettled(t, l, "Mo", a, clerks(l[0], settledClerk("Mo", number, a), l[2]), impl.ClerkNew)
		for range 10 {
			l = wantAsked(t, l, "Mo", number, l, a, impl.ClerkAgain)
		}
		wantOpen(t, l, "Al")
		wantCode(t, l, "Mo", number+2, impl.ClerkAhead)
		if number > 1 {
			wantCode(t, l, "Mo", number-1, impl.ClerkLate)
		}
	}
}

// letter is what a clerk sends: a request by its number, with the operation.
type letter struct {
	clerk  string
	number int
	op     impl.Op
}

// sentOnce are the requests of three clerks in their order.
func sentOnce() map[string][]letter {
	sent := map[string][]letter{}
	for _, name := range []string{"Ann", "Bo", "Cy"} {
		for number := 1; number <= 8; number++ {
			op := book(name, people(1), 1)
			if number%3 == 0 {
				op = manifest(1)
			}
			sent[name] = append(sent[name], letter{name, number, op})
		}
	}
	return sent
}

// Each request is sent until it is answered, and many times more, by three clerks in any order; the office does it once.
func TestARequestThatIsSentTwiceIsDoneOnce(t *testing.T) {
	for seed := range 30 {
		r := rand.New(rand.NewSource(int64(seed)))
		l, sent := []impl.Clerk(nil), sentOnce()
		s := sail(1, "Oslo", "Kiel", 200, 300)
		s.Most = 100
		o := newOffice(t, s)
		by, codes := 0, map[int]int{}
		var waiting []letter
		first := map[string]impl.Answer{}
		for len(sent["Ann"])+len(sent["Bo"])+len(sent["Cy"])+len(waiting) > 0 {
			if len(waiting) > 0 && r.Intn(3) == 0 {
				w := waiting[0]
				waiting = waiting[1:]
				by++
				var a impl.Answer
				o, a = checkOp(t, o, by, w.op)
				first[fmt.Sprint(w.clerk, w.number)] = a
				var code int
				if l, code = impl.SettleClerk(l, w.clerk, a); code != impl.ClerkNew {
					t.Fatal(code)
				}
				continue
			}
			name := []string{"Ann", "Bo", "Cy"}[r.Intn(3)]
			if len(sent[name]) == 0 {
				continue
			}
			x := sent[name][0]
			then, a, code := impl.AskClerk(l, x.clerk, x.number)
			codes[code]++
			switch code {
			case impl.ClerkNew:
				waiting = append(waiting, x)
			case impl.ClerkAgain:
				if want, was := first[fmt.Sprint(x.clerk, x.number)]; !was || !sameAnswer(a, want) {
					t.Fatal(x, a, want, was)
				}
				if r.Intn(3) == 0 {
					sent[name] = sent[name][1:]
				}
			case impl.ClerkOpen:
			default:
				t.Fatal(x, code)
			}
			l = then
		}
		if len(first) != 24 || by != 24 || len(o.Bookings) != 18 || codes[impl.ClerkNew] != 24 || codes[impl.ClerkAgain] < 24 || codes[impl.ClerkOpen] < 5 {
			t.Fatal(seed, len(first), by, len(o.Bookings), codes)
		}
	}
}

// Clerks ask and are settled in any order; each answer is the clerks of the next question.
func TestHistoriesOfClerks(t *testing.T) {
	r := rand.New(rand.NewSource(10))
	asked, settled, full := map[int]int{}, map[int]int{}, 0
	for run := range 60 {
		var l []impl.Clerk
		last := map[string]int{}
		names := 2 + run%25
		for range 400 {
			name := "N" + string(rune('A'+r.Intn(names)))
			if r.Intn(40) == 0 {
				name = textsThatAreNoNames()[r.Intn(10)]
			}
			g := clerksGiven{Clerks: l, Name: name, Number: max(1, last[name]) + []int{0, 1, 0, 1, 0, -1, 2, 3, 1000000}[r.Intn(9)], Answer: someAnswers()[r.Intn(5)]}
			got := checkClerks(t, "a history", g)
			if r.Intn(2) == 0 {
				l = got.Settled
				settled[got.SettleCode]++
				continue
			}
			l = got.Asked
			asked[got.AskCode]++
			if got.AskCode == impl.ClerkNew {
				last[name]++
				if last[name] != g.Number {
					t.Fatalf("%q was new with %d behind %d", name, g.Number, last[name]-1)
				}
			}
		}
		if len(l) != len(last) {
			t.Error(names, len(l), len(last))
		}
		full += count(len(l) == 20)
	}
	if full == 0 {
		t.Error("never MaxClerks")
	}
	for code := impl.ClerkNew; code <= impl.ClerkOpen; code++ {
		if asked[code] < 100 {
			t.Error("asked", asked)
		}
	}
	if settled[impl.ClerkNew] < 100 || settled[impl.ClerkLate] < 100 || len(settled) != 2 {
		t.Error("settled", settled)
	}
}
