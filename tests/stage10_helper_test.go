package tests

import (
	"slices"
	"sort"
	"testing"

	"loop.example/g00084/impl"
)

func openClerk(name string, number int) impl.Clerk {
	return impl.Clerk{Name: name, Number: number, Open: true}
}

func settledClerk(name string, number int, a impl.Answer) impl.Clerk {
	return impl.Clerk{Name: name, Number: number, Answer: a}
}

func clerks(l ...impl.Clerk) []impl.Clerk { return l }

// sameClerks holds the empty list and the nil list for the same.
func sameClerks(a, b []impl.Clerk) bool {
	return slices.EqualFunc(a, b, func(x, y impl.Clerk) bool {
		return x.Name == y.Name && x.Number == y.Number && x.Open == y.Open && sameAnswer(x.Answer, y.Answer)
	})
}

func copyClerks(l []impl.Clerk) []impl.Clerk {
	var c []impl.Clerk
	for _, x := range l {
		x.Answer.Rows = append([]impl.Row(nil), x.Answer.Rows...)
		c = append(c, x)
	}
	return c
}

// Chapter 10 told a second time.

func zeroAnswerByWords(a impl.Answer) bool {
	return a.Code == 0 && a.Name == 0 && a.Price == 0 && len(a.Rows) == 0
}

func requestByWords(number int) bool { return number >= 1 && number <= 1000000 }

// goodClerksByWords holds each clerk against all behind it.
func goodClerksByWords(l []impl.Clerk) bool {
	if len(l) > 20 {
		return false
	}
	for i, c := range l {
		if !nameByWords(c.Name) || !requestByWords(c.Number) || c.Open && !zeroAnswerByWords(c.Answer) {
			return false
		}
		for _, behind := range l[i+1:] {
			if behind.Name <= c.Name {
				return false
			}
		}
	}
	return true
}

func clerkAtByWords(l []impl.Clerk, name string) int {
	return slices.IndexFunc(l, func(c impl.Clerk) bool { return c.Name == name })
}

// codesByWords are the codes that hold, in the order in which they are told; the first one counts.
func codesByWords(l []impl.Clerk, name string, number int) []int {
	var codes []int
	holds := func(code int, does bool) {
		if does {
			codes = append(codes, code)
		}
	}
	at := clerkAtByWords(l, name)
	wrong := !goodClerksByWords(l) || !nameByWords(name) || !requestByWords(number)
	holds(impl.ClerkBad, wrong || at < 0 && (len(l) == 20 || number != 1))
	if at >= 0 {
		c := l[at]
		holds(impl.ClerkLate, number < c.Number)
		holds(impl.ClerkAhead, number-1 > c.Number)
		holds(impl.ClerkOpen, c.Open)
		holds(impl.ClerkAgain, number == c.Number)
	}
	return append(codes, impl.ClerkNew)
}

func askClerkByWords(l []impl.Clerk, name string, number int) ([]impl.Clerk, impl.Answer, int) {
	code := codesByWords(l, name, number)[0]
	if !goodClerksByWords(l) {
		return nil, impl.Answer{}, code
	}
	l = copyClerks(l)
	at := clerkAtByWords(l, name)
	switch {
	case code == impl.ClerkAgain:
		return l, copyClerks(l)[at].Answer, code
	case code == impl.ClerkNew && at >= 0:
		l = slices.Delete(l, at, at+1)
		fallthrough
	case code == impl.ClerkNew:
		l = append(l, openClerk(name, number))
		sort.Slice(l, func(i, j int) bool { return l[i].Name < l[j].Name })
	}
	return l, impl.Answer{}, code
}

func settleByWords(l []impl.Clerk, name string, a impl.Answer) ([]impl.Clerk, int) {
	if !goodClerksByWords(l) {
		return nil, impl.ClerkBad
	}
	l = copyClerks(l)
	at := clerkAtByWords(l, name)
	if at < 0 || !l[at].Open {
		return l, impl.ClerkLate
	}
	l[at].Open = false
	l[at].Answer = impl.Answer{Code: a.Code, Name: a.Name, Price: a.Price, Rows: append([]impl.Row(nil), a.Rows...)}
	return l, impl.ClerkNew
}

func openByWords(l []impl.Clerk) ([]string, bool) {
	if !goodClerksByWords(l) {
		return nil, false
	}
	var names []string
	for i := len(l) - 1; i >= 0; i-- {
		if l[i].Open {
			names = append(names, l[i].Name)
		}
	}
	sort.Strings(names)
	return names, true
}

// clerksGiven is all that the functions of chapter 10 are asked about.
type clerksGiven struct {
	Clerks []impl.Clerk
	Name   string
	Number int
	Answer impl.Answer
}

type clerksAnswers struct {
	Good       bool
	Asked      []impl.Clerk
	Again      impl.Answer
	AskCode    int
	Settled    []impl.Clerk
	SettleCode int
	Open       []string
	OpenOk     bool
}

func askClerks(g clerksGiven) clerksAnswers {
	var r clerksAnswers
	r.Good = impl.GoodClerks(g.Clerks)
	r.Asked, r.Again, r.AskCode = impl.AskClerk(g.Clerks, g.Name, g.Number)
	r.Settled, r.SettleCode = impl.SettleClerk(g.Clerks, g.Name, g.Answer)
	r.Open, r.OpenOk = impl.OpenClerks(g.Clerks)
	return r
}

func clerksByWords(g clerksGiven) clerksAnswers {
	var r clerksAnswers
	r.Good = goodClerksByWords(g.Clerks)
	r.Asked, r.Again, r.AskCode = askClerkByWords(g.Clerks, g.Name, g.Number)
	r.Settled, r.SettleCode = settleByWords(g.Clerks, g.Name, g.Answer)
	r.Open, r.OpenOk = openByWords(g.Clerks)
	return r
}

func sameClerksAnswers(a, b clerksAnswers) bool {
	return a.Good == b.Good && sameClerks(a.Asked, b.Asked) && sameAnswer(a.Again, b.Again) && a.AskCode == b.AskCode &&
		sameClerks(a.Settled, b.Settled) && a.SettleCode == b.SettleCode && slices.Equal(a.Open, b.Open) && a.OpenOk == b.OpenOk
}

// checkClerks holds all that is answered against the words, and against what is said of any answer.
func checkClerks(t *testing.T, what string, g clerksGiven) clerksAnswers {
	t.Helper()
	got, want := askClerks(g), clerksByWords(g)
	if !sameClerksAnswers(got, want) {
		t.Fatalf("%s: %+v:\n%+v\nand by the words\n%+v", what, g, got, want)
	}
	if got.Good != impl.GoodClerks(got.Asked) && len(got.Asked) > 0 || !impl.GoodClerks(got.Settled) {
		t.Fatalf("%s: %+v: the clerks are not good then: %+v", what, g, got)
	}
	if got.Good && got.AskCode != impl.ClerkNew && !sameClerks(got.Asked, g.Clerks) || got.Good && got.SettleCode != impl.ClerkNew && !sameClerks(got.Settled, g.Clerks) {
		t.Fatalf("%s: %+v: the clerks are not as they were: %+v", what, g, got)
	}
	if got.AskCode != impl.ClerkAgain && !zeroAnswerByWords(got.Again) {
		t.Fatalf("%s: %+v: answered by %+v", what, g, got.Again)
	}
	return got
}

// wantAsked asks once, and wants these clerks, this answer and this code.
func wantAsked(t *testing.T, l []impl.Clerk, name string, number int, then []impl.Clerk, a impl.Answer, code int) []impl.Clerk {
	t.Helper()
	got := checkClerks(t, "asked", clerksGiven{Clerks: l, Name: name, Number: number})
	if !sameClerks(got.Asked, then) || !sameAnswer(got.Again, a) || got.AskCode != code {
		t.Errorf("%+v, %q asks with %d: %+v, %+v, %d, not %+v, %+v, %d", l, name, number, got.Asked, got.Again, got.AskCode, then, a, code)
	}
	return got.Asked
}

// wantCode asks for what has a code that is neither ClerkNew nor ClerkAgain, of good clerks.
func wantCode(t *testing.T, l []impl.Clerk, name string, number int, code int) {
	t.Helper()
	wantAsked(t, l, name, number, l, impl.Answer{}, code)
}

func wantSettled(t *testing.T, l []impl.Clerk, name string, a impl.Answer, then []impl.Clerk, code int) []impl.Clerk {
	t.Helper()
	got := checkClerks(t, "settled", clerksGiven{Clerks: l, Name: name, Answer: a})
	if !sameClerks(got.Settled, then) || got.SettleCode != code {
		t.Errorf("%+v, of %q is settled %+v: %+v, %d, not %+v, %d", l, name, a, got.Settled, got.SettleCode, then, code)
	}
	return got.Settled
}

func wantOpen(t *testing.T, l []impl.Clerk, names ...string) {
	t.Helper()
	got := checkClerks(t, "open", clerksGiven{Clerks: l})
	if !got.OpenOk || !slices.Equal(got.Open, names) {
		t.Errorf("%+v: open are %q, %v, not %q", l, got.Open, got.OpenOk, names)
	}
}

// manyClerks have names of one letter and of more; every third one is open.
func manyClerks(many int) []impl.Clerk {
	var l []impl.Clerk
	for i := range many {
		c := settledClerk("Clerk"+string(rune('a'+i)), 1+i, impl.Answer{Name: i})
		if i%3 == 2 {
			c = openClerk(c.Name, c.Number)
		}
		l = append(l, c)
	}
	return l
}

func twoRows() []impl.Row {
	return []impl.Row{{Name: 1, Owner: "Ann", People: 2, Lane: 1, Cabin: 3}, {Name: 2, Owner: "Bo", People: 3, Lane: -1, Cabin: -1}}
}

// fiveClerks have answers of each form; Bo and Ed are open.
func fiveClerks() []impl.Clerk {
	return clerks(settledClerk("Ann", 1, impl.Answer{Name: 3, Price: 40}), openClerk("Bo", 2), settledClerk("Cy", 3, impl.Answer{Rows: twoRows()}), settledClerk("Di", 1000000, impl.Answer{Code: 5}), openClerk("Ed", 1000000))
}
