package tests

import (
	"math/rand"
	"reflect"
	"slices"
	"testing"

	"loop.example/g00084/impl"
)

// Views.

func TestAViewOfBookingsOfEachState(t *testing.T) {
	o := seenOffice(t)
	v, good := impl.ViewOf(o)
	if !good {
		t.Fatal("not seen")
	}
	wantView(t, "the view", v, impl.View{
		Bookings: []impl.Booking{
			{Name: 1, By: 11, Owner: "Ann", Legs: []int{1, 2, 4}, Party: family(), State: impl.StateBooked, Price: 540},
			{Name: 2, By: 12, Owner: "Bo", Legs: []int{1}, Party: withWhole(people(3), 1), State: impl.StateHeld, Until: 150, Price: 210},
			{Name: 3, By: 13, Owner: "Cy", Legs: []int{2}, Party: withBerths(people(1), 1, 1), State: impl.StateBooked, Price: 70},
			{Name: 4, By: 14, Owner: "Di", Legs: []int{1, 9}, Party: people(2), State: impl.StateBooked, Price: 160},
			{Name: 5, By: 15, Owner: "Ed", Legs: []int{2}, Party: withWhole(people(1), 3), State: impl.StateLapsed, Until: 30, Price: 280},
			{Name: 6, By: 16, Owner: "Fay", Legs: []int{1}, Party: withCar(people(1), 100, 100), State: impl.StateCancelled, Price: 100},
			{Name: 7, By: 17, Owner: "Gus", Legs: []int{4}, Party: withWhole(withCar(people(1), 150, 300), 2), State: impl.StateHeld, Until: 90, Price: 280},
		},
		Rows: [][]impl.Row{
			{{Name: 1, Owner: "Ann", People: 2}, {Name: 2, Owner: "Bo", People: 3, Lane: -1, Cabin: 2}, {Name: 4, Owner: "Di", People: 2, Lane: -1, Cabin: -1}},
			{{Name: 1, Owner: "Ann", People: 2}, {Name: 3, Owner: "Cy", People: 1, Lane: -1}},
			{{Name: 1, Owner: "Ann", People: 2, Lane: 1}, {Name: 7, Owner: "Gus", People: 1, Lane: 1, Cabin: 1}},
			nil,
			{{Name: 4, Owner: "Di", People: 2, Lane: -1, Cabin: -1}},
			nil,
		},
		Lanes:  [][]int{{100, 900}, {300}, {300, 50}, {400}, nil, nil},
		Berths: [][]int{{0, 4, 0}, {1, 1}, {0, 0}, {3}, nil, nil},
		People: []int{13, 9, 5, 6, 1, 0},
	})
	viewed(t, o)
}

// Each part of a view stands at the number of its sailing.
func TestAViewIsWhatTheOfficeTells(t *testing.T) {
	for _, o := range []impl.Office{seenOffice(t), busyOffice(t), twoBookings(t), fullOffice(t, wide()...), newOffice(t, ferries()...)} {
		v := viewed(t, o)
		if len(v.Rows) != len(o.Sailings) || len(v.Lanes) != len(o.Sailings) || len(v.Berths) != len(o.Sailings) || len(v.People) != len(o.Sailings) {
			t.Fatalf("%+v", v)
		}
		for i, s := range o.Sailings {
			rows, _ := impl.ManifestOf(o, s.Id)
			lengths, free, many, _ := impl.RoomLeft(o, s.Id)
			if !slices.Equal(v.Rows[i], rows) || !slices.Equal(v.Lanes[i], lengths) || !slices.Equal(v.Berths[i], free) || v.People[i] != many {
				t.Errorf("sailing %d: %+v", s.Id, v)
			}
		}
		if !sameBookings(v.Bookings, o.Bookings) {
			t.Errorf("%+v, not %+v", v.Bookings, o.Bookings)
		}
	}
}

func TestViewsWithoutAnything(t *testing.T) {
	wantView(t, "no sailings", viewed(t, impl.Office{}), impl.View{})
	lonely := sail(5, "Oslo", "Kiel", 1, 2)
	wantView(t, "nobody", viewed(t, newOffice(t, lonely)), impl.View{Rows: make([][]impl.Row, 1), Lanes: make([][]int, 1), Berths: make([][]int, 1), People: []int{0}})
	o := newOffice(t, ferries()...)
	wantView(t, "no bookings", viewed(t, o), impl.View{
		Rows: make([][]impl.Row, 4), Lanes: [][]int{{500, 900}, {700}, {300, 600}, nil}, Berths: [][]int{{2, 4, 4}, {4, 1}, {2, 2}, nil}, People: []int{20, 12, 8, 3},
	})
}

// What does not show: the order in which things stand in a Load. What does: who stands where.
func TestWhatAViewShows(t *testing.T) {
	o := busyOffice(t)
	v := viewed(t, o)
	turned := copyOffice(o)
	for _, l := range turned.Loads {
		slices.Reverse(l.Stays)
		slices.Reverse(l.Rooms)
		slices.Reverse(l.Seats)
	}
	wantView(t, "turned round", viewed(t, turned), v)
	for what, change := range map[string]func(o *impl.Office){
		"another lane":   func(o *impl.Office) { o.Loads[0].Stays[1].Lane = 1 },
		"another cabin":  func(o *impl.Office) { o.Loads[0].Rooms[1].Cabin = 2 },
		"another By":     func(o *impl.Office) { renameBy(o, 19, 1) },
		"another Owner":  func(o *impl.Office) { o.Bookings[0].Owner = "Zoe" },
		"another Price":  func(o *impl.Office) { o.Bookings[6].Price++ },
		"another Until":  func(o *impl.Office) { o.Bookings[1].Until++ },
		"one more lane":  func(o *impl.Office) { o.Sailings[3].Lanes = []impl.Lane{lane(1, 100)} },
		"one more cabin": func(o *impl.Office) { o.Sailings[3].Cabins = []impl.Cabin{cabin(1, 1)} },
		"one more seat":  func(o *impl.Office) { o.Sailings[3].Most++ },
	} {
		c := copyOffice(o)
		change(&c)
		if sameView(viewed(t, c), v) {
			t.Error(what)
		}
	}
}

func TestViewsOfHistories(t *testing.T) {
	for seed := range int64(30) {
		r := rand.New(rand.NewSource(900 + seed))
		o := seenOffice(t)
		for by := 100; by < 160; by++ {
			o, _, _ = impl.DoOp(o, by, randomOp(r, o))
			viewed(t, o)
		}
	}
}

// The order of what is done.

func doneBy(bys ...int) []impl.Done {
	var d []impl.Done
	for i, by := range bys {
		d = append(d, impl.Done{By: by, Op: manifest(i), Answer: impl.Answer{Code: i}})
	}
	return d
}

func TestTheOrderOfAnyList(t *testing.T) {
	long := rand.New(rand.NewSource(9)).Perm(5000)
	for _, bys := range [][]int{nil, {1}, {5000, 5002, 5001}, {7, 7}, {7, 8, 7, 7, 8}, {0, 0, 0}, {3, 2, 1}, {1, 2, 3}, numbersFarOut(), long} {
		if got := impl.OrderOf(doneBy(bys...)); !slices.Equal(got, bys) {
			t.Errorf("%v, not %v", got, bys)
		}
	}
	if got := impl.OrderOf([]impl.Done{}); len(got) > 0 {
		t.Error(got)
	}
	if got := impl.OrderOf([]impl.Done{{Answer: impl.Answer{Code: 5, Name: 4}, Op: impl.Op{Name: 3}}, {By: 9}}); !slices.Equal(got, []int{0, 9}) {
		t.Error(got)
	}
}

// The order is that in which they were finished, not that in which they were begun.
func TestTheOrderInWhichTheyWereFinished(t *testing.T) {
	o := twoBookings(t)
	m := moves(submits(book("Cy", people(1), 1), quote(people(1), 2), transfer(1, "Zoe"), manifest(1)), run(3), runs(2, 3), runs(0, 4), runs(1, 5), runs(3, 4), run(1))
	d := played(t, o, m)
	if order := impl.OrderOf(d.Done); !slices.Equal(order, []int{5002, 5000, 5003, 5001}) {
		t.Error(order)
	}
	checkOneAfterTheOther(t, o, m)
}

// Replays.

func TestAReplayOfWhatIsDone(t *testing.T) {
	o := twoBookings(t)
	d := []impl.Done{{By: 5, Op: book("Cy", people(3), 3)}, {By: 6, Op: confirm(2)}, {By: 6, Op: manifest(3)}, {By: 7, Op: impl.Op{}}, {By: 8, Op: amend(3, people(2), 3)}, {By: 5, Op: quote(people(1), 1)}}
	then, all := replayed(t, o, d)
	want := []impl.Answer{{Name: 3, Price: 120}, {Name: 2, Price: 140}, {Rows: []impl.Row{{Name: 3, Owner: "Cy", People: 3, Lane: -1, Cabin: -1}}}, {Code: impl.AnsForm}, {Name: 3, Price: 80}, {Price: 40}}
	if !slices.EqualFunc(all, want, sameAnswer) {
		t.Errorf("%+v", all)
	}
	if len(then.Bookings) != 3 || then.Bookings[2].By != 8 || then.Bookings[1].State != impl.StateBooked {
		t.Errorf("%+v", then.Bookings)
	}
	none, all := replayed(t, o, nil)
	if wantOffice(t, none, o); len(all) > 0 {
		t.Error(all)
	}
}

// The answers that are told are not looked at.
func TestAReplayGivesItsOwnAnswers(t *testing.T) {
	o := seenOffice(t)
	d := checkOneAfterTheOther(t, o, moves(submits(allOps()[:8]...), runs(1, 9), runs(6, 9), runs(3, 9)))
	then, all := replayed(t, o, d)
	for i := range d {
		d[i].Answer = impl.Answer{Code: 77, Name: -1, Price: 1 << 62, Rows: make([]impl.Row, 9)}
	}
	other, others := replayed(t, o, d)
	if wantOffice(t, other, then); !slices.EqualFunc(all, others, sameAnswer) || impl.SameAnswers(d, all) {
		t.Error(all, others)
	}
}

// In another order the same operations may leave something else.
func TestAReplayGoesByTheOrder(t *testing.T) {
	s := sail(1, "Oslo", "Kiel", 50, 60)
	s.Most = 3
	o := newOffice(t, s)
	m := moves(submits(book("Ann", people(2), 1), book("Bo", people(3), 1)), runs(1, 2), runs(0, 2), runs(1, 2), runs(0, 2))
	d := checkOneAfterTheOther(t, o, m)
	if !slices.Equal(impl.OrderOf(d), []int{5001, 5000}) || d[0].Answer.Code != 0 || d[1].Answer.Code != impl.AnsPeople {
		t.Fatalf("%+v", d)
	}
	slices.Reverse(d)
	then, all := replayed(t, o, d)
	if impl.SameAnswers(d, all) || then.Bookings[0].Owner != "Ann" {
		t.Errorf("%+v, %+v", then, all)
	}
}

func manyDone(many int) []impl.Done {
	bys, ops := manyOps(many)
	var d []impl.Done
	for i := range bys {
		d = append(d, impl.Done{By: bys[i], Op: ops[i]})
	}
	return d
}

func TestAReplayOfTwoHundredAndOneMore(t *testing.T) {
	o := newOffice(t, wide()...)
	for _, many := range []int{1, 199, 200} {
		if _, all := replayed(t, o, manyDone(many)); len(all) != many {
			t.Error(many, len(all))
		}
	}
	for _, many := range []int{201, 202, 400, 3000} {
		wantNoReplay(t, "too many", o, manyDone(many))
	}
	// so many may be done behind MaxMoves
	m := slices.Repeat(moves(submit(impl.Op{}), run(0)), 200)
	if d := checkOneAfterTheOther(t, o, m); len(d) != 200 {
		t.Error(len(d))
	}
}

func TestAReplayOfWhichOneCantBeDone(t *testing.T) {
	o := busyOffice(t)
	good := []impl.Done{{By: 77, Op: book("Cy", people(1), 1)}, {By: 78, Op: manifest(1)}, {By: 79, Op: confirm(2)}}
	replayed(t, o, good)
	for at := range good {
		for _, by := range append(numbersFarOut(), 0, 10000, 11+2, 14, 15, 16, 17, 18, 19, 20) {
			d := slices.Clone(good)
			d[at].By = by
			wantNoReplay(t, "a By that is none", o, d)
		}
	}
	wantNoReplay(t, "a By that is a Booking's now", o, append(slices.Clone(good), good[0]))
	wantNoReplay(t, "the last of two hundred", newOffice(t, wide()...), append(manyDone(199), impl.Done{By: 1, Op: impl.Op{}}))
	amended := []impl.Done{{By: 77, Op: book("Cy", people(1), 1)}, {By: 78, Op: amend(9, people(1), 1)}, {By: 77, Op: manifest(1)}}
	replayed(t, o, amended)
	for _, by := range []int{1, 4999, 5000, 9999} {
		replayed(t, o, []impl.Done{{By: by, Op: book("Cy", people(1), 1)}})
	}
}

// Answers.

func wantSame(t *testing.T, what string, d []impl.Done, a []impl.Answer, want bool) {
	t.Helper()
	if got := impl.SameAnswers(d, a); got != want || sameAnswersByWords(d, a) != want {
		t.Errorf("%s: %v", what, got)
	}
}

// answered is what is done with these answers.
func answered(all ...impl.Answer) []impl.Done {
	var d []impl.Done
	for i, a := range all {
		a.Rows = slices.Clone(a.Rows)
		d = append(d, impl.Done{By: 5000 + i, Op: confirm(1), Answer: a})
	}
	return d
}

func someAnswers() []impl.Answer {
	rows := []impl.Row{{Name: 1, Owner: "Ann", People: 2, Lane: 1, Cabin: 3}, {Name: 2, Owner: "Bo", People: 3, Lane: -1, Cabin: -1}}
	return []impl.Answer{{Name: 1, Price: 40}, {Code: 5}, {Rows: rows}, {}, {Code: -1, Name: 1 << 62, Price: -1 << 63, Rows: rows[:1]}}
}

func TestSameAnswers(t *testing.T) {
	all := someAnswers()
	wantSame(t, "none", nil, nil, true)
	wantSame(t, "empty ones", []impl.Done{}, []impl.Answer{}, true)
	for many := range len(all) + 1 {
		for others := range len(all) + 1 {
			wantSame(t, "as many", answered(all[:many]...), all[:others], many == others)
		}
	}
	wantSame(t, "one zero answer more", answered(all[:3]...), append(all[:3:3], impl.Answer{}), false)
	wantSame(t, "one zero answer less", answered(append(all[:3:3], impl.Answer{})...), all[:3], false)
	turned := slices.Clone(all)
	slices.Reverse(turned)
	wantSame(t, "turned round", answered(turned...), all, false)
	wantSame(t, "an empty list of rows", answered(impl.Answer{Rows: []impl.Row{}}), []impl.Answer{{}}, true)
	wantSame(t, "no list of rows", answered(impl.Answer{}), []impl.Answer{{Rows: []impl.Row{}}}, true)
	d := answered(all...)
	for i := range d {
		d[i].By, d[i].Op = -i, impl.Op{Kind: 77, Legs: []int{i}}
	}
	wantSame(t, "other Bys and operations", d, all, true)
}

func TestAnswersOfWhichOneDiffers(t *testing.T) {
	for what, change := range map[string]func(a *impl.Answer){
		"the Code":             func(a *impl.Answer) { a.Code++ },
		"the Name":             func(a *impl.Answer) { a.Name++ },
		"the Price":            func(a *impl.Answer) { a.Price-- },
		"a row's Name":         func(a *impl.Answer) { a.Rows[0].Name++ },
		"a row's Owner":        func(a *impl.Answer) { a.Rows[1].Owner += "a" },
		"a row's People":       func(a *impl.Answer) { a.Rows[1].People++ },
		"a row's Lane":         func(a *impl.Answer) { a.Rows[0].Lane = -1 },
		"a row's Cabin":        func(a *impl.Answer) { a.Rows[1].Cabin = 0 },
		"the last row gone":    func(a *impl.Answer) { a.Rows = a.Rows[:1] },
		"the first row gone":   func(a *impl.Answer) { a.Rows = a.Rows[1:] },
		"all rows gone":        func(a *impl.Answer) { a.Rows = nil },
		"one row more":         func(a *impl.Answer) { a.Rows = append(a.Rows, a.Rows[0]) },
		"one empty row more":   func(a *impl.Answer) { a.Rows = append(a.Rows, impl.Row{}) },
		"the rows' order":      func(a *impl.Answer) { slices.Reverse(a.Rows) },
		"the rows' two Owners": func(a *impl.Answer) { a.Rows[0].Owner, a.Rows[1].Owner = a.Rows[1].Owner, a.Rows[0].Owner },
	} {
		for at := range 4 {
			all := slices.Repeat(someAnswers()[2:3], 4)
			d := answered(all...)
			wantSame(t, what, d, all, true)
			change(&d[at].Answer)
			wantSame(t, what, d, all, false)
		}
	}
}

func TestEveryChangeOfAnswers(t *testing.T) {
	all := someAnswers()
	d := answered(all...)
	same, other := 0, 0
	eachChange(reflect.ValueOf(&d).Elem(), "what is done", append(numbersFarOut(), 0, 1), []string{"", "Ann", "Bo", "Ann "}, func(what string) {
		got := impl.SameAnswers(d, all)
		if got != sameAnswersByWords(d, all) {
			t.Fatal(what, got)
		}
		same, other = same+count(got), other+count(!got)
	})
	if same < 100 || other < 200 {
		t.Error(same, other)
	}
	wantSame(t, "nothing", d, all, true)
}

// What leaves no trace.

func TestAnOperationThatIsAbortedLeavesNoTrace(t *testing.T) {
	o := seenOffice(t)
	v := viewed(t, o)
	changed := 0
	for _, op := range allOps() {
		_, steps, _ := impl.FinishAfter(o, submits(op))
		for n := range steps {
			m := moves(submit(op), runs(0, n))
			d := played(t, o, m)
			pairs, _ := impl.PairsChanged(o, d.Office)
			changed += count(len(pairs) > 0)
			for _, gone := range [][]impl.Move{m, moves(m, abort(0)), moves(m, submit(op), abort(1)), moves(m, abort(0), submit(op), runs(0, n))} {
				clean, good := impl.CleanAfter(o, gone)
				if !good || !sameView(clean, v) {
					t.Fatalf("%+v, behind %d steps: %+v, %v", op, n, clean, good)
				}
				checkOneAfterTheOther(t, o, gone)
			}
			d = played(t, o, moves(m, abort(0)))
			wantPairs(t, "aborted", o, d.Office)
			wantOffice(t, d.Office, o)
		}
	}
	if changed < 60 {
		t.Error(changed)
	}
}

// Others that are finished meanwhile are what they would be without the one that is aborted; where they wait for it, behind it.
func TestOthersBesideOneThatIsAborted(t *testing.T) {
	o := seenOffice(t)
	others := []impl.Op{book("Hal", everything(), 7), transfer(4, "Zoe"), manifest(9)}
	alone := checkOneAfterTheOther(t, o, moves(submits(others...), runs(0, 9), runs(1, 9), runs(2, 9)))
	if len(alone) != 3 {
		t.Fatal(alone)
	}
	without, _ := replayed(t, o, alone)
	for _, op := range allOps() {
		_, steps, _ := impl.FinishAfter(o, submits(op))
		for n := range steps {
			m := moves(submit(op), runs(0, n), submits(others...), runs(1, 9), runs(2, 9), runs(3, 9), abort(0), runs(1, 9), runs(2, 9), runs(3, 9))
			d := checkOneAfterTheOther(t, o, m)
			clean, _ := impl.CleanAfter(o, m)
			v := viewed(t, without)
			for i := range v.Bookings { // the one that is aborted had the first By
				v.Bookings[i].By += count(v.Bookings[i].By >= 5000)
			}
			if len(d) != 3 {
				t.Fatalf("%+v, behind %d steps: %+v", op, n, d)
			}
			wantView(t, "beside one that is aborted", clean, v)
		}
	}
}

func TestMovesThatEndAmidTasks(t *testing.T) {
	o := busyOffice(t)
	m := someMoves()
	for many := range len(m) + 1 {
		checkOneAfterTheOther(t, o, m[:many])
	}
	if d := checkOneAfterTheOther(t, o, m); len(d) != 3 {
		t.Error(d)
	}
}

// A By from FirstBy on, that a task gave, does not keep the office from being seen.
func TestACleanViewHasTheBysOfTasks(t *testing.T) {
	o := twoBookings(t)
	m := moves(submits(book("Cy", people(1), 3), amend(2, people(1), 1)), runs(0, 4), runs(1, 6))
	v, good := impl.CleanAfter(o, m)
	if !good || len(v.Bookings) != 3 || v.Bookings[2].By != 5000 || !slices.Equal(v.People, []int{9, 7, 9}) {
		t.Fatalf("%+v, %v", v, good)
	}
	v, good = impl.CleanAfter(o, moves(m, runs(1, 3)))
	if !good || v.Bookings[1].By != 5001 || !slices.Equal(v.People, []int{8, 9, 9}) {
		t.Fatalf("%+v, %v", v, good)
	}
}

// One alone, and many.

func TestAnOperationAloneIsDoneAtOnce(t *testing.T) {
	codes := map[int]int{}
	for _, o := range []impl.Office{seenOffice(t), twoBookings(t), newOffice(t, ferries()...), fullOffice(t, wide()...), smallOffice(t)} {
		for _, op := range allOps() {
			then, a, _ := impl.DoOp(o, 5000, op)
			d, _, good := impl.FinishAfter(o, submits(op))
			if !good || !slices.Equal(impl.OrderOf(d.Done), []int{5000}) || !impl.SameAnswers(d.Done, []impl.Answer{a}) {
				t.Fatalf("%+v: %+v, and at once %+v", op, d.Done, a)
			}
			wantView(t, "alone", viewed(t, d.Office), viewed(t, then))
			wantPairs(t, "alone", d.Office, then)
			checkOneAfterTheOther(t, o, submits(op))
			codes[a.Code]++
		}
	}
	for code := impl.AnsOk; code <= impl.AnsFull; code++ {
		if codes[code] < 3 {
			t.Error(code, codes[code])
		}
	}
}

// drawnRun begins some tasks, and runs ready ones until there are none.
func drawnRun(r *rand.Rand, o impl.Office, many int) []impl.Move {
	var m []impl.Move
	for range many {
		m = append(m, submit(randomOp(r, o)))
	}
	d, _, _ := playByWords(o, m)
	for len(d.Tasks) > 0 && len(m) < impl.MaxMoves {
		ready := readyByWords(d)
		move := run(ready[r.Intn(len(ready))])
		moveByWords(&d, move)
		m = append(m, move)
	}
	return m
}

func TestAllThatIsBegunAndFinished(t *testing.T) {
	turned, refused := 0, 0
	for seed := range int64(150) {
		r := rand.New(rand.NewSource(9000 + seed))
		o := busyOffice(t)
		many := 2 + r.Intn(11)
		m := drawnRun(r, o, many)
		d := checkOneAfterTheOther(t, o, m)
		order := impl.OrderOf(d)
		turned += count(!slices.IsSorted(order))
		slices.Sort(order)
		for i, by := range order {
			if len(order) != many || by != 5000+i {
				t.Fatal(seed, many, order)
			}
		}
		for _, x := range d {
			refused += count(x.Answer.Code >= impl.AnsDeck)
		}
	}
	if turned < 100 || refused < 50 {
		t.Error(turned, refused)
	}
}

func TestEveryOrderIsOneAfterTheOther(t *testing.T) {
	o := smallOffice(t)
	ops := []impl.Op{book("Cy", people(2), 1), book("Di", people(1), 1, 2), quote(people(1), 1), amend(1, people(1), 2), amend(2, people(2), 1), cancel(2, 0), expire(1, 6), transfer(2, "Zoe"), manifest(1)}
	ends, seen := 0, map[string]bool{}
	for i, a := range ops {
		for _, b := range ops[i:] {
			m := submits(a, b)
			d, _, _ := playByWords(o, m)
			everyOrder(t, o, m, d, 0, func(d impl.Desk) {
				then, all := replayed(t, o, d.Done)
				if !impl.SameAnswers(d.Done, all) || !sameOffice(then, d.Office) {
					t.Fatalf("%+v:\n%+v, %+v, not %+v", d.Done, then, all, d.Office)
				}
				ends++
				seen[inWords(all)] = true
			})
		}
	}
	if ends < 2000 || len(seen) < 40 {
		t.Error(ends, len(seen))
	}
	for _, two := range [][]impl.Op{{book("Cy", people(2), 1), manifest(1)}, {amend(1, people(1), 2), cancel(2, 0)}, {expire(1, 6), quote(people(3), 1)}} {
		m := submits(two...)
		d, _, _ := playByWords(o, m)
		everyOrder(t, o, m, d, 1, func(d impl.Desk) {
			if then, all := replayed(t, o, d.Done); !impl.SameAnswers(d.Done, all) || !sameOffice(then, d.Office) {
				t.Fatalf("%+v:\n%+v, %+v, not %+v", d.Done, then, all, d.Office)
			}
		})
	}
}

// Drawn orders of MaxMoves moves, with aborts, held against one after the other all along the way.
func TestDrawnOrdersAreOneAfterTheOther(t *testing.T) {
	answers, done, open := map[int]int{}, 0, 0
	for seed := range 40 {
		r := rand.New(rand.NewSource(int64(1900 + seed)))
		o := drawnOffice(t, seed)
		many := []int{3, 12, 6, 1}[seed/4%4]
		d, _, _ := playByWords(o, nil)
		var m []impl.Move
		for range impl.MaxMoves {
			move := randomMove(r, d, many)
			moveByWords(&d, move)
			if m = append(m, move); len(m)%25 == 0 {
				checkOneAfterTheOther(t, o, m)
			}
		}
		open += len(d.Tasks)
		for _, x := range d.Done {
			answers[x.Answer.Code]++
		}
		done = max(done, len(d.Done))
	}
	for code := impl.AnsOk; code <= impl.AnsFull; code++ {
		if answers[code] < 5 {
			t.Error("answer", code, answers[code])
		}
	}
	if done < 50 || open < 40 {
		t.Error(done, open)
	}
}

// What changed.

func TestOfficesThatDifferInNothing(t *testing.T) {
	for _, o := range []impl.Office{busyOffice(t), seenOffice(t), fullOffice(t, wide()...), newOffice(t, ferries()...), {}} {
		wantPairs(t, "the same", o, o)
		wantPairs(t, "a copy", o, copyOffice(o))
		wantPairs(t, "a copy with room", o, roomy(o, 1))
	}
}

// Each list of each sailing alone: one more, one less, one field, the order of two.
func TestOfficesThatDifferInOneList(t *testing.T) {
	o := busyOffice(t)
	for i, s := range o.Sailings {
		o.Loads[i].Stays = []impl.Stay{stay(1, 0, 10, 10), stay(2, 0, 20, 20)}
		o.Loads[i].Rooms = []impl.Room{berths(1, 0, 1), berths(2, 1, 2)}
		o.Loads[i].Seats = []impl.Seat{seat(1, 1), seat(2, 2)}
		for resource, changes := range [][]func(l *impl.Load){
			{
				func(l *impl.Load) { l.Stays = append(l.Stays, stay(3, 0, 1, 1)) }, func(l *impl.Load) { l.Stays = append(l.Stays, impl.Stay{}) },
				func(l *impl.Load) { l.Stays = append(l.Stays, l.Stays[0]) }, func(l *impl.Load) { l.Stays = l.Stays[:1] },
				func(l *impl.Load) { l.Stays = l.Stays[1:] }, func(l *impl.Load) { l.Stays = nil }, func(l *impl.Load) { slices.Reverse(l.Stays) },
				func(l *impl.Load) { l.Stays[0].By++ }, func(l *impl.Load) { l.Stays[1].Lane++ }, func(l *impl.Load) { l.Stays[0].Length++ }, func(l *impl.Load) { l.Stays[1].Height++ },
			},
			{
				func(l *impl.Load) { l.Rooms = append(l.Rooms, berths(3, 0, 1)) }, func(l *impl.Load) { l.Rooms = append(l.Rooms, impl.Room{}) },
				func(l *impl.Load) { l.Rooms = append(l.Rooms, l.Rooms[0]) }, func(l *impl.Load) { l.Rooms = l.Rooms[:1] },
				func(l *impl.Load) { l.Rooms = l.Rooms[1:] }, func(l *impl.Load) { l.Rooms = nil }, func(l *impl.Load) { slices.Reverse(l.Rooms) },
				func(l *impl.Load) { l.Rooms[0].By++ }, func(l *impl.Load) { l.Rooms[1].Cabin++ }, func(l *impl.Load) { l.Rooms[0].Many++ }, func(l *impl.Load) { l.Rooms[1].Whole = true },
			},
			{
				func(l *impl.Load) { l.Seats = append(l.Seats, seat(3, 1)) }, func(l *impl.Load) { l.Seats = append(l.Seats, impl.Seat{}) },
				func(l *impl.Load) { l.Seats = append(l.Seats, l.Seats[0]) }, func(l *impl.Load) { l.Seats = l.Seats[:1] },
				func(l *impl.Load) { l.Seats = l.Seats[1:] }, func(l *impl.Load) { l.Seats = nil }, func(l *impl.Load) { slices.Reverse(l.Seats) },
				func(l *impl.Load) { l.Seats[0].By++ }, func(l *impl.Load) { l.Seats[1].Many++ },
			},
		} {
			for _, change := range changes {
				c := copyOffice(o)
				change(&c.Loads[i])
				wantPairs(t, s.From, o, c, impl.PairKey(s.Id, resource))
				for other := range o.Sailings { // beside a second one that differs
					for second := range 3 {
						twice := copyOffice(c)
						putListByWords(&twice.Loads[other], second, impl.Load{Stays: []impl.Stay{stay(9, 9, 9, 9)}, Rooms: []impl.Room{berths(9, 9, 9)}, Seats: []impl.Seat{seat(9, 9)}})
						keys := []int{impl.PairKey(s.Id, resource), impl.PairKey(o.Sailings[other].Id, second)}
						slices.Sort(keys)
						wantPairs(t, "two", o, twice, slices.Compact(keys)...)
					}
				}
			}
		}
	}
}

// All 18 at once, and drawn ones of them: they rise each time.
func TestChangedPairsRise(t *testing.T) {
	o := newOffice(t, sailingsWithIds(1, 2, 3, 40, 98, 99)...)
	r := rand.New(rand.NewSource(99))
	all := []int{1003, 1004, 1005, 1006, 1007, 1008, 1009, 1010, 1011, 1120, 1121, 1122, 1294, 1295, 1296, 1297, 1298, 1299}
	differs := impl.Load{Stays: []impl.Stay{{}}, Rooms: []impl.Room{{}}, Seats: []impl.Seat{{}}}
	for n := range 300 {
		c := copyOffice(o)
		var want []int
		for i, key := range all {
			if n == 0 || r.Intn(2) == 0 {
				want = append(want, key)
				putListByWords(&c.Loads[i/3], i%3, differs)
			}
		}
		wantPairs(t, "drawn", o, c, want...)
	}
}

func TestOfficesThatDifferInBookingsAlone(t *testing.T) {
	o := busyOffice(t)
	for what, change := range map[string]func(o *impl.Office){
		"none":          func(o *impl.Office) { o.Bookings = nil },
		"one more":      func(o *impl.Office) { o.Bookings = append(o.Bookings, impl.Booking{}) },
		"other By":      func(o *impl.Office) { o.Bookings[0].By = -1 },
		"other legs":    func(o *impl.Office) { o.Bookings[0].Legs = []int{77, 78, 79, 80} },
		"other state":   func(o *impl.Office) { o.Bookings[1].State = 99 },
		"turned round":  func(o *impl.Office) { slices.Reverse(o.Bookings) },
		"far too many":  func(o *impl.Office) { o.Bookings = make([]impl.Booking, 500) },
		"another owner": func(o *impl.Office) { o.Bookings[2].Owner = "" },
	} {
		c := copyOffice(o)
		change(&c)
		wantPairs(t, what, o, c)
	}
}

// Beside a good timetable the offices may be of any kind.
func TestChangedPairsOfOfficesThatAreNotGood(t *testing.T) {
	o := newOffice(t, chain(0, 0, 0)...)
	wild := func() impl.Office {
		c := copyOffice(o)
		c.Loads[0].Stays = []impl.Stay{{By: -1, Lane: 1 << 62, Length: -1 << 63, Height: 7}, {By: -1}}
		c.Loads[1].Rooms = make([]impl.Room, 100)
		c.Loads[2].Seats = []impl.Seat{{By: 1, Many: -5}, {By: 1, Many: 1 << 62}}
		c.Bookings = []impl.Booking{{Name: -1, Owner: "no name", Legs: []int{-1}}}
		return c
	}
	if impl.GoodOffice(wild()) {
		t.Fatal("good")
	}
	wantPairs(t, "two that are not good", wild(), wild())
	wantPairs(t, "one that is not good", o, wild(), 1003, 1007, 1011)
	c := wild()
	c.Loads[1].Rooms[99].Many = 1
	c.Loads[2].Seats = c.Loads[2].Seats[:1]
	wantPairs(t, "two that are not good and differ", c, wild(), 1007, 1011)
	c.Loads[1] = impl.Load{Seats: make([]impl.Seat, 3)}
	wantPairs(t, "lists that change places", c, wild(), 1007, 1008, 1011)
}

// A step changes one pair at most, and one whose lock its task holds; a whole operation those that it asked for.
func TestPairsChangedStepByStep(t *testing.T) {
	o := seenOffice(t)
	changed := 0
	for _, op := range allOps() {
		_, steps, _ := impl.FinishAfter(o, submits(op))
		was := o
		for n := 1; n <= steps; n++ {
			d := played(t, o, moves(submit(op), runs(0, n)))
			step, good := impl.PairsChanged(was, d.Office)
			if !good || len(step) > 1 {
				t.Fatalf("%+v: step %d changes %v, %v", op, n, step, good)
			}
			asked, _ := impl.AsksOf(o, op)
			all, _ := impl.PairsChanged(o, d.Office)
			for _, key := range append(step, all...) {
				if !slices.Contains(asked, impl.Ask{Key: key}) {
					t.Fatalf("%+v: step %d changes %v, and it asks for %v", op, n, key, asked)
				}
			}
			changed += len(step)
			was = d.Office
		}
		then, _, _ := impl.DoOp(o, 5000, op)
		wantPairs(t, "in the end", was, then)
	}
	if changed < 60 {
		t.Error(changed)
	}
	a, _, _ := impl.DoOp(o, 77, amend(1, people(1), 1, 9))
	wantPairs(t, "an amendment", o, a, 1003, 1004, 1005, 1006, 1007, 1008, 1012, 1013, 1014, 1029)
}
