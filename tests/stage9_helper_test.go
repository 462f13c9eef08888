package tests

import (
	"slices"
	"testing"

	"loop.example/g00084/impl"
)

// Chapter 9 told a second time, by the second tellings of chapters 7 and 8.

func viewByWords(o impl.Office) (impl.View, bool) {
	if !goodOfficeByWords(o) {
		return impl.View{}, false
	}
	v := impl.View{Bookings: copyOffice(o).Bookings}
	for _, s := range o.Sailings {
		rows, _ := manifestByWords(o, s.Id)
		lengths, free, many, _ := roomLeftByWords(o, s.Id)
		v.Rows, v.Lanes, v.Berths, v.People = append(v.Rows, rows), append(v.Lanes, lengths), append(v.Berths, free), append(v.People, many)
	}
	return v, true
}

func orderByWords(d []impl.Done) []int {
	bys := make([]int, len(d))
	for i := range d {
		bys[i] = d[i].By
	}
	return bys
}

func replayByWords(o impl.Office, d []impl.Done) (impl.Office, []impl.Answer, bool) {
	if !goodOfficeByWords(o) || len(d) > 200 {
		return impl.Office{}, nil, false
	}
	var all []impl.Answer
	for _, x := range d {
		then, a, good := doOpByWords(o, x.By, x.Op)
		if !good {
			return impl.Office{}, nil, false
		}
		o, all = then, append(all, a)
	}
	return copyOffice(o), all, true
}

func sameAnswersByWords(d []impl.Done, a []impl.Answer) bool {
	for i := range max(len(d), len(a)) {
		if i >= len(d) || i >= len(a) || d[i].Answer.Code != a[i].Code || d[i].Answer.Name != a[i].Name || d[i].Answer.Price != a[i].Price {
			return false
		}
		rows, others := d[i].Answer.Rows, a[i].Rows
		for j := range max(len(rows), len(others)) {
			if j >= len(rows) || j >= len(others) || rows[j] != others[j] {
				return false
			}
		}
	}
	return true
}

func cleanByWords(o impl.Office, m []impl.Move) (impl.View, bool) {
	d, _, good := playByWords(o, m)
	for len(d.Tasks) > 0 {
		abortByWords(&d, 0)
	}
	if !good {
		return impl.View{}, false
	}
	return viewByWords(d.Office)
}

// pairsByWords goes by all keys that there may be.
func pairsByWords(a, b impl.Office) ([]int, bool) {
	if !goodTimetableByWords(a.Sailings) || !sameSailings(a.Sailings, b.Sailings) || len(a.Loads) != len(a.Sailings) || len(b.Loads) != len(a.Sailings) {
		return nil, false
	}
	var keys []int
	for key := 1003; key <= 1299; key++ {
		at, resource := sailingAtByWords(a, (key-1000)/3), (key-1000)%3
		if at >= 0 && !sameLoads([]impl.Load{justByWords(a.Loads[at], resource)}, []impl.Load{justByWords(b.Loads[at], resource)}) {
			keys = append(keys, key)
		}
	}
	return keys, true
}

// seenGiven is all that the functions of chapter 9 are asked about.
type seenGiven struct {
	O       impl.Office
	Other   impl.Office
	Done    []impl.Done
	Answers []impl.Answer
	Moves   []impl.Move
}

type seenAnswers struct {
	View     impl.View
	ViewOk   bool
	Order    []int
	Then     impl.Office
	Answers  []impl.Answer
	ReplayOk bool
	Same     bool
	Clean    impl.View
	CleanOk  bool
	Pairs    []int
	PairsOk  bool
}

func askSeen(g seenGiven) seenAnswers {
	var r seenAnswers
	r.View, r.ViewOk = impl.ViewOf(g.O)
	r.Order = impl.OrderOf(g.Done)
	r.Then, r.Answers, r.ReplayOk = impl.ReplayDone(g.O, g.Done)
	r.Same = impl.SameAnswers(g.Done, g.Answers)
	r.Clean, r.CleanOk = impl.CleanAfter(g.O, g.Moves)
	r.Pairs, r.PairsOk = impl.PairsChanged(g.O, g.Other)
	return r
}

func seenByWords(g seenGiven) seenAnswers {
	var r seenAnswers
	r.View, r.ViewOk = viewByWords(g.O)
	r.Order = orderByWords(g.Done)
	r.Then, r.Answers, r.ReplayOk = replayByWords(g.O, g.Done)
	r.Same = sameAnswersByWords(g.Done, g.Answers)
	r.Clean, r.CleanOk = cleanByWords(g.O, g.Moves)
	r.Pairs, r.PairsOk = pairsByWords(g.O, g.Other)
	return r
}

// checkGiven holds all that is answered against the words.
func checkGiven(t *testing.T, what string, g seenGiven) seenAnswers {
	t.Helper()
	got, want := askSeen(g), seenByWords(g)
	if inWords(got) != inWords(want) {
		t.Fatalf("%s: %+v:\n%+v\nand by the words\n%+v", what, g, got, want)
	}
	return got
}

// sameView holds the empty list and the nil list for the same.
func sameView(a, b impl.View) bool {
	return sameBookings(a.Bookings, b.Bookings) && slices.EqualFunc(a.Rows, b.Rows, slices.Equal) &&
		slices.EqualFunc(a.Lanes, b.Lanes, slices.Equal) && slices.EqualFunc(a.Berths, b.Berths, slices.Equal) && slices.Equal(a.People, b.People)
}

// viewed is what is seen of a good office.
func viewed(t *testing.T, o impl.Office) impl.View {
	t.Helper()
	v, good := impl.ViewOf(o)
	if want, goodByWords := viewByWords(o); !good || !goodByWords || !sameView(v, want) {
		t.Fatalf("%+v is seen as\n%+v, %v, and by the words as\n%+v, %v", o, v, good, want, goodByWords)
	}
	return v
}

func wantView(t *testing.T, what string, got, want impl.View) {
	t.Helper()
	if !sameView(got, want) {
		t.Fatalf("%s: seen is\n%+v, not\n%+v", what, got, want)
	}
}

func wantPairs(t *testing.T, what string, a, b impl.Office, want ...int) {
	t.Helper()
	for _, two := range [][2]impl.Office{{a, b}, {b, a}} {
		keys, good := impl.PairsChanged(two[0], two[1])
		byWords, goodByWords := pairsByWords(two[0], two[1])
		if !good || !slices.Equal(keys, want) || !goodByWords || !slices.Equal(byWords, want) {
			t.Errorf("%s: changed are %v, %v, and by the words %v, %v, not %v", what, keys, good, byWords, goodByWords, want)
		}
	}
}

func wantNoPairs(t *testing.T, what string, a, b impl.Office) {
	t.Helper()
	for _, two := range [][2]impl.Office{{a, b}, {b, a}} {
		if keys, good := impl.PairsChanged(two[0], two[1]); good || len(keys) > 0 {
			t.Errorf("%s: %v, %v", what, keys, good)
		}
		if _, good := pairsByWords(two[0], two[1]); good {
			t.Error("by the words:", what)
		}
	}
}

func wantNoReplay(t *testing.T, what string, o impl.Office, d []impl.Done) {
	t.Helper()
	if then, all, good := impl.ReplayDone(o, d); good || len(all) > 0 || !sameOffice(then, impl.Office{}) {
		t.Errorf("%s: %+v, %+v, %v", what, then, all, good)
	}
	if _, _, good := replayByWords(o, d); good {
		t.Error("by the words:", what)
	}
}

// replayed does what is done once more, and holds it against the words.
func replayed(t *testing.T, o impl.Office, d []impl.Done) (impl.Office, []impl.Answer) {
	t.Helper()
	then, all, good := impl.ReplayDone(o, d)
	thenByWords, allByWords, goodByWords := replayByWords(o, d)
	if !good || !goodByWords || !sameOffice(then, thenByWords) || !slices.EqualFunc(all, allByWords, sameAnswer) {
		t.Fatalf("%+v:\n%+v, %+v, %v, and by the words\n%+v, %+v, %v", d, then, all, good, thenByWords, allByWords, goodByWords)
	}
	return then, all
}

// checkOneAfterTheOther is what promise 9 says of moves: what is done behind them is what is done one after the other, and all else leaves no trace.
func checkOneAfterTheOther(t *testing.T, o impl.Office, m []impl.Move) []impl.Done {
	t.Helper()
	d, _, good := impl.PlayMoves(o, m)
	if !good {
		t.Fatalf("%+v: not played", m)
	}
	then, all := replayed(t, o, d.Done)
	if !impl.SameAnswers(d.Done, all) || !sameAnswersByWords(d.Done, all) {
		t.Fatalf("%+v:\ndone is %+v, and one after the other it is %+v", m, d.Done, all)
	}
	clean, good := impl.CleanAfter(o, m)
	if byWords, goodByWords := cleanByWords(o, m); !good || !goodByWords || !sameView(clean, byWords) {
		t.Fatalf("%+v:\n%+v, %v, and by the words\n%+v, %v", m, clean, good, byWords, goodByWords)
	}
	wantView(t, "behind what is done", clean, viewed(t, then))
	if left, _ := impl.AbortAfter(o, m); !sameOffice(left.Office, then) {
		t.Fatalf("%+v: aborted it is\n%+v, and one after the other\n%+v", m, left.Office, then)
	}
	finished, _, good := impl.FinishAfter(o, m)
	then, all = replayed(t, o, finished.Done)
	if !good || !impl.SameAnswers(finished.Done, all) || !sameOffice(finished.Office, then) {
		t.Fatalf("%+v: finished it is\n%+v, and one after the other\n%+v, %+v", m, finished, then, all)
	}
	wantView(t, "behind what is finished", viewed(t, finished.Office), viewed(t, then))
	return d.Done
}

// seenOffice has six sailings: 7 and 20 have nobody on them, 9 and 20 neither lanes nor cabins; its bookings are of each state.
func seenOffice(t *testing.T) impl.Office {
	t.Helper()
	l := ferries()
	empty := sail(7, "Bari", "Oslo", 700, 800)
	empty.Lanes, empty.Cabins, empty.Most = []impl.Lane{lane(400, 200)}, []impl.Cabin{cabin(2, 3)}, 6
	o := newOffice(t, l[0], l[1], l[2], empty, l[3], sail(20, "Oslo", "Aber", 1, 2))
	o = told(t, o, 11, book("Ann", family(), 1, 2, 4), 1, 540)
	o = told(t, o, 12, hold("Bo", 150, withWhole(people(3), 1), 1), 2, 210)
	o = told(t, o, 13, book("Cy", withBerths(people(1), 1, 1), 2), 3, 70)
	o = told(t, o, 14, book("Di", people(2), 1, 9), 4, 160)
	o = told(t, o, 15, hold("Ed", 30, withWhole(people(1), 3), 2), 5, 280)
	o = told(t, o, 16, book("Fay", withCar(people(1), 100, 100), 1), 6, 100)
	o = told(t, o, 17, hold("Gus", 90, withWhole(withCar(people(1), 150, 300), 2), 4), 7, 280)
	o = told(t, o, 18, expire(5, 31), 5, 0)
	return told(t, o, 18, cancel(6, 0), 6, 100)
}

// allOps has operations that are done on seenOffice, and refused by each code but that of a full office.
func allOps() []impl.Op {
	return []impl.Op{
		quote(everything(), 2), quote(people(2), 1, 2, 4), hold("Hal", 5, withCar(people(1), 300, 100), 1, 2), hold("Hal", 5, people(1), 9), book("Hal", people(1), 2), book("Hal", withWhole(people(2), 2), 1), book("Ida", everything(), 7),
		confirm(2), confirm(7), amend(1, people(1), 9), amend(1, withBerths(people(4), 1, 3), 1, 2), amend(7, people(2), 1, 9), amend(4, withWhole(withCar(people(3), 400, 100), 2), 7),
		cancel(1, 0), cancel(3, 250), transfer(4, "Zoe"), expire(2, 151), expire(7, 91), manifest(1), manifest(4), manifest(20),
		{}, book("", people(1), 1), quote(people(1), 2, 1), manifest(3), confirm(8), cancel(30, 0), confirm(1), expire(2, 150), cancel(6, 0), transfer(5, "Zoe"),
		book("Hal", withCar(people(1), 301, 100), 1, 2), quote(withBerths(people(1), 1, 1), 1), amend(3, withBerths(people(1), 3, 2), 2), book("Hal", people(2), 1, 9), amend(3, people(4), 9), hold("Hal", 5, people(1), 20),
	}
}
