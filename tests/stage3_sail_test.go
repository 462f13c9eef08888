package tests

import (
	"math/rand"
	"slices"
	"testing"

	"loop.example/g00084/impl"
)

// wantRoute asks for the legs, or for none where there are no legs.
func wantRoute(t *testing.T, l []impl.Sailing, from, to string, after int, legs ...int) {
	t.Helper()
	if r, ok := impl.EarliestRoute(l, from, to, after); ok != (len(legs) > 0) || !slices.Equal(r, legs) {
		t.Errorf("%s to %s after %d: got %v %v, want %v; %+v", from, to, after, r, ok, legs, l)
	}
}

func TestSailConstants(t *testing.T) {
	got := []int{impl.MaxSailings, impl.MaxLegs, impl.MaxLanes, impl.MaxCabins, impl.MaxTime}
	if !slices.Equal(got, []int{6, 3, 4, 6, 10000}) {
		t.Error(got)
	}
}

func TestOrdinarySailings(t *testing.T) {
	for _, s := range []impl.Sailing{sail(1, "Oslo", "Kiel", 1, 5), fullSailing(7)} {
		if !impl.GoodSailing(s) {
			t.Errorf("%+v", s)
		}
	}
	if !impl.GoodTimetable([]impl.Sailing{sail(1, "Oslo", "Kiel", 1, 5), sail(2, "Kiel", "Oslo", 1, 5), fullSailing(7)}) {
		t.Error("timetable")
	}
}

func TestPairKeys(t *testing.T) {
	for _, c := range [][3]int{{1, 0, 1003}, {1, 1, 1004}, {1, 2, 1005}, {2, 0, 1006}, {2, 1, 1007}, {50, 2, 1152}, {99, 0, 1297}, {99, 2, 1299}} {
		if k := impl.PairKey(c[0], c[1]); k != c[2] {
			t.Error(c, k)
		}
	}
	seen := map[int]bool{}
	for sailing := 1; sailing <= 99; sailing++ {
		for resource := range 3 {
			seen[impl.PairKey(sailing, resource)] = true
		}
	}
	if len(seen) != 3*99 {
		t.Error("two pairs have one key", len(seen))
	}
}

func TestLegsThatFit(t *testing.T) {
	l := []impl.Sailing{
		sail(10, "A", "B", 1, 5),
		sail(20, "B", "C", 5, 9),
		sail(30, "B", "C", 4, 8),
		sail(40, "C", "D", 9, 10),
		sail(50, "C", "A", 9, 12),
		sail(60, "A", "C", 12, 13),
	}
	for _, legs := range [][]int{{10}, {60}, {10, 20}, {20, 40}, {30, 40}, {10, 20, 40}, {10, 20, 50}, {20, 50, 60}} {
		if !impl.LegsFit(l, legs) {
			t.Error("do not fit:", legs)
		}
	}
	cases := map[string][]int{
		"it departs just before":        {10, 30},
		"just before, of three":         {10, 30, 40},
		"another place":                 {10, 40},
		"another place at the end":      {10, 20, 60},
		"the other way round":           {20, 10},
		"one sailing twice":             {10, 10},
		"the place fits, much too late": {50, 10},
		"the second and third swapped":  {10, 40, 20},
	}
	for what, legs := range cases {
		if impl.LegsFit(l, legs) {
			t.Error("fit:", what)
		}
	}
}

func TestWaysOfOneTwoAndThreeLegs(t *testing.T) {
	l := []impl.Sailing{
		sail(1, "C", "D", 30, 40),
		sail(2, "B", "C", 20, 25),
		sail(3, "A", "B", 10, 15),
	}
	wantRoute(t, l, "A", "B", 0, 3)
	wantRoute(t, l, "A", "C", 0, 3, 2)
	wantRoute(t, l, "A", "D", 0, 3, 2, 1)
	wantRoute(t, l, "B", "D", 0, 2, 1)
	wantRoute(t, l, "C", "D", 0, 1)
}

func TestNoWay(t *testing.T) {
	l := []impl.Sailing{
		sail(1, "A", "B", 1, 2), sail(2, "B", "C", 2, 3), sail(3, "C", "D", 3, 4), sail(4, "D", "E", 4, 5), sail(5, "X", "Y", 1, 9),
	}
	wantRoute(t, l, "A", "D", 0, 1, 2, 3)
	wantRoute(t, l, "B", "E", 0, 2, 3, 4)
	wantRoute(t, l, "A", "E", 0)            // four legs
	wantRoute(t, l, "B", "A", 0)            // nothing goes back
	wantRoute(t, l, "A", "Y", 0)            // nothing goes between
	wantRoute(t, l, "A", "Nowhere", 0)      // nothing goes there
	wantRoute(t, l, "Nowhere", "A", 0)      // nothing goes from there
	wantRoute(t, nil, "A", "B", 0)          // nothing sails
	wantRoute(t, l, "a", "B", 0)            // another name
	wantRoute(t, l, "A", "b", 0)            // another name
	wantRoute(t, l, "A", "D", impl.MaxTime) // too late
}

func TestAnEarlierWayOfMoreLegs(t *testing.T) {
	l := []impl.Sailing{
		sail(1, "A", "D", 0, 30),
		sail(2, "A", "B", 0, 5),
		sail(3, "B", "D", 10, 29),
		sail(4, "B", "C", 10, 15),
		sail(5, "C", "D", 20, 28),
	}
	wantRoute(t, l[:1], "A", "D", 0, 1)
	wantRoute(t, l[:2], "A", "D", 0, 1)
	wantRoute(t, l[:3], "A", "D", 0, 2, 3)
	wantRoute(t, l[:4], "A", "D", 0, 2, 3)
	wantRoute(t, l, "A", "D", 0, 2, 4, 5)
	l[0].Arrive = 27
	wantRoute(t, l, "A", "D", 0, 1)
}

// Where more than three legs would come earlier the best of at most three counts.
func TestAnEarlierWayOfTooManyLegs(t *testing.T) {
	l := []impl.Sailing{
		sail(1, "A", "B", 0, 1), sail(2, "B", "C", 1, 2), sail(3, "C", "D", 2, 3), sail(4, "D", "E", 3, 4), sail(5, "A", "C", 0, 3), sail(6, "C", "E", 3, 9),
	}
	wantRoute(t, l, "A", "E", 0, 5, 6)
	l[5].Depart = 2
	wantRoute(t, l, "A", "E", 0, 1, 2, 6)
}

// A sailing that comes to a place later, but with fewer legs, may be the only one from which three legs are enough.
func TestALaterStartWithFewerLegs(t *testing.T) {
	l := []impl.Sailing{
		sail(1, "A", "B", 0, 1), sail(2, "B", "C", 1, 2), sail(3, "A", "C", 0, 5), sail(4, "C", "D", 5, 6), sail(5, "D", "E", 6, 7),
	}
	wantRoute(t, l, "A", "C", 0, 1, 2)
	wantRoute(t, l, "A", "D", 0, 3, 4)
	wantRoute(t, l, "A", "E", 0, 3, 4, 5)
}

func TestEqualArrivalsFewestLegs(t *testing.T) {
	one := sail(9, "A", "D", 0, 30)
	two := []impl.Sailing{sail(7, "A", "X", 0, 5), sail(8, "X", "D", 10, 30)}
	three := []impl.Sailing{sail(1, "A", "B", 0, 5), sail(2, "B", "C", 10, 15), sail(3, "C", "D", 20, 30)}
	wantRoute(t, append(slices.Clone(two), one), "A", "D", 0, 9)
	wantRoute(t, append(slices.Clone(three), one), "A", "D", 0, 9)
	wantRoute(t, slices.Concat(three, two), "A", "D", 0, 7, 8)
	wantRoute(t, slices.Concat(three, two, []impl.Sailing{one}), "A", "D", 0, 9)
	wantRoute(t, slices.Concat(three, two[:1], []impl.Sailing{one}), "A", "D", 1)
}

func TestEqualArrivalsFirstNumbers(t *testing.T) {
	wantRoute(t, []impl.Sailing{sail(3, "A", "B", 5, 9), sail(4, "A", "B", 1, 9)}, "A", "B", 0, 3)
	wantRoute(t, []impl.Sailing{sail(3, "A", "B", 0, 9), sail(4, "A", "B", 1, 9)}, "A", "B", 1, 4)
	first := []impl.Sailing{sail(1, "A", "B", 0, 6), sail(2, "A", "B", 0, 5), sail(3, "B", "C", 6, 9)}
	wantRoute(t, first, "A", "C", 0, 1, 3)
	second := []impl.Sailing{sail(1, "B", "C", 6, 9), sail(2, "B", "C", 7, 9), sail(3, "A", "B", 0, 6)}
	wantRoute(t, second, "A", "C", 0, 3, 1)
	crossed := []impl.Sailing{sail(1, "Y", "C", 6, 9), sail(2, "A", "X", 0, 6), sail(3, "A", "Y", 0, 5), sail(4, "X", "C", 7, 9)}
	wantRoute(t, crossed, "A", "C", 0, 2, 4)
	third := []impl.Sailing{sail(1, "C", "D", 8, 9), sail(2, "C", "D", 7, 9), sail(3, "A", "B", 0, 6), sail(4, "B", "C", 6, 7)}
	wantRoute(t, third, "A", "D", 0, 3, 4, 1)
	third[0].Depart = 6 // missed
	wantRoute(t, third, "A", "D", 0, 3, 4, 2)
	middle := []impl.Sailing{sail(1, "C", "D", 7, 9), sail(2, "B", "C", 6, 7), sail(3, "A", "B", 0, 6), sail(4, "B", "C", 6, 7)}
	wantRoute(t, middle, "A", "D", 0, 3, 2, 1)
	numbers := []impl.Sailing{sail(9, "A", "B", 0, 5), sail(10, "A", "B", 0, 5), sail(11, "B", "C", 5, 9)}
	wantRoute(t, numbers, "A", "C", 0, 9, 11) // as numbers, not as texts
}

func TestALegThatDepartsJustWhenTheOneAheadArrives(t *testing.T) {
	l := []impl.Sailing{sail(1, "A", "B", 0, 10), sail(2, "B", "C", 10, 20), sail(3, "C", "D", 20, 30)}
	wantRoute(t, l, "A", "C", 0, 1, 2)
	wantRoute(t, l, "A", "D", 0, 1, 2, 3)
	l[2].Depart = 19
	wantRoute(t, l, "A", "C", 0, 1, 2)
	wantRoute(t, l, "A", "D", 0)
	wantRoute(t, l, "B", "D", 0)
	l[1].Depart = 9
	wantRoute(t, l, "A", "C", 0)
	l[1].Depart, l[1].Arrive = 10, 19
	wantRoute(t, l, "A", "D", 0, 1, 2, 3)
	l[0].Arrive = 11
	wantRoute(t, l, "A", "D", 0)
}

func TestAfterMetAndPassed(t *testing.T) {
	l := []impl.Sailing{sail(1, "A", "B", 0, 3), sail(2, "A", "B", 10, 20), sail(3, "A", "B", 11, 30), sail(4, "B", "C", 20, 40), sail(5, "A", "B", 9999, 10000)}
	wantRoute(t, l, "A", "B", 0, 1)
	wantRoute(t, l, "A", "B", 1, 2)
	wantRoute(t, l, "A", "B", 10, 2)
	wantRoute(t, l, "A", "B", 11, 3)
	wantRoute(t, l, "A", "B", 12, 5)
	wantRoute(t, l, "A", "B", 9999, 5)
	wantRoute(t, l, "A", "B", 10000)
	wantRoute(t, l, "A", "C", 0, 1, 4)
	wantRoute(t, l, "A", "C", 10, 2, 4)
	wantRoute(t, l, "A", "C", 11) // the first leg counts, not the last one
}

func TestRoutesThatGoRound(t *testing.T) {
	l := []impl.Sailing{sail(1, "A", "B", 0, 1), sail(2, "B", "A", 1, 2), sail(3, "A", "C", 2, 9), sail(4, "C", "B", 9, 10)}
	wantRoute(t, l, "A", "C", 0, 3)
	wantRoute(t, l, "B", "C", 0, 2, 3)
	wantRoute(t, l, "A", "B", 1, 3, 4)
	wantRoute(t, l, "C", "A", 0)
}

// kindsOfSailings is every sailing without a number between these places, within the times 0..last.
func kindsOfSailings(places []string, last int) []impl.Sailing {
	var all []impl.Sailing
	for _, from := range places {
		for _, to := range places {
			for depart := range last {
				for arrive := depart + 1; arrive <= last && from != to; arrive++ {
					all = append(all, sail(0, from, to, depart, arrive))
				}
			}
		}
	}
	return all
}

// checkRoute holds a route against the words, and tells how many legs it has.
func checkRoute(t *testing.T, l []impl.Sailing, from, to string, after int) int {
	t.Helper()
	r, ok := impl.EarliestRoute(l, from, to, after)
	want, found := routeByWords(l, from, to, after)
	if ok != found || !slices.Equal(r, want) {
		t.Fatalf("%s to %s after %d, %+v: got %v %v, want %v", from, to, after, l, r, ok, want)
	}
	return len(r)
}

func numbered(l []impl.Sailing) []impl.Sailing {
	for i := range l {
		l[i].Id = i + 1
	}
	return l
}

// Three places: three legs would come by one place twice, so two are the most.
func TestSmallTimetablesAllOfThem(t *testing.T) {
	many := [3]int{}
	for _, l := range lists(kindsOfSailings([]string{"A", "B", "C"}, 3), 3) {
		numbered(l)
		for after := range 3 {
			many[checkRoute(t, l, "A", "B", after)]++
		}
	}
	if slices.Contains(many[:], 0) {
		t.Error("some length never came", many)
	}
}

func TestSmallTimetablesWithThreeLegs(t *testing.T) {
	var kinds []impl.Sailing
	for depart := range 3 {
		for _, p := range []string{"AB", "BC", "CD", "BD"} {
			kinds = append(kinds, sail(0, p[:1], p[1:], depart, depart+1))
		}
	}
	many := [4]int{}
	for _, l := range lists(kinds, 4) {
		many[checkRoute(t, numbered(l), "A", "D", 0)]++
	}
	if many[0] == 0 || many[2] == 0 || many[3] == 0 {
		t.Error("some length never came", many)
	}
}

// randomTimetable has many equal times and few places, so that many ways are alike.
func randomTimetable(r *rand.Rand) []impl.Sailing {
	places := []string{"A", "B", "C", "D"}
	ids := r.Perm(99)[:r.Intn(impl.MaxSailings+1)]
	slices.Sort(ids)
	var l []impl.Sailing
	for _, id := range ids {
		p := r.Perm(len(places))
		depart := r.Intn(6)
		l = append(l, sail(id+1, places[p[0]], places[p[1]], depart, depart+1+r.Intn(3)))
	}
	return l
}

func TestTimetablesAgainstTheWords(t *testing.T) {
	many := [4]int{}
	r := rand.New(rand.NewSource(3))
	for range 20000 {
		l := randomTimetable(r)
		from, to, after := string(rune('A'+r.Intn(4))), string(rune('A'+r.Intn(4))), r.Intn(4)
		legs := make([]int, r.Intn(5))
		for i := range legs {
			legs[i] = r.Intn(100)
			if len(l) > 0 && r.Intn(8) > 0 {
				legs[i] = l[r.Intn(len(l))].Id
			}
		}
		got, want := askSailings(l, legs, from, to, after), sailingsByWords(l, legs, from, to, after)
		if !sameSailAnswers(got, want) {
			t.Fatalf("%+v, legs %v, %s to %s after %d: got %+v, want %+v", l, legs, from, to, after, got, want)
		}
		many[len(got.Route)]++
	}
	if slices.Contains(many[:], 0) {
		t.Error("some length never came", many)
	}
}

// What the promise says, asked without the words' own search: the route leads there, and no other legs that do come earlier.
func TestNoWayComesEarlier(t *testing.T) {
	r := rand.New(rand.NewSource(4))
	for range 3000 {
		l := randomTimetable(r)
		var ids []int
		for _, s := range l {
			ids = append(ids, s.Id)
		}
		arrival := func(legs []int) (int, bool) {
			if !impl.LegsFit(l, legs) {
				return 0, false
			}
			first, last := l[slices.Index(ids, legs[0])], l[slices.Index(ids, legs[len(legs)-1])]
			return last.Arrive, first.From == "A" && first.Depart >= 1 && last.To == "D"
		}
		route, ok := impl.EarliestRoute(l, "A", "D", 1)
		arrive, leads := arrival(route)
		if leads != ok {
			t.Fatalf("%v %v: %+v", route, ok, l)
		}
		for _, legs := range lists(ids, 3) {
			if other, leads := arrival(legs); leads && (!ok || other < arrive) {
				t.Fatalf("%v comes earlier than %v: %+v", legs, route, l)
			}
		}
	}
}

// As many ways at once as six sailings can make.
func TestManyWaysAtOnce(t *testing.T) {
	l := []impl.Sailing{
		sail(1, "A", "B", 0, 3), sail(2, "A", "B", 0, 2), sail(3, "A", "B", 0, 1),
		sail(4, "B", "C", 3, 9), sail(5, "B", "C", 3, 8), sail(6, "B", "C", 3, 8),
	}
	wantRoute(t, l, "A", "C", 0, 1, 5)
	l[5].Arrive = 7
	wantRoute(t, l, "A", "C", 0, 1, 6)
	l[5].Depart = 2
	wantRoute(t, l, "A", "C", 0, 2, 6)
	l[5].Depart = 1
	wantRoute(t, l, "A", "C", 0, 3, 6)
	l[5].Depart = 0
	wantRoute(t, l, "A", "C", 0, 1, 5)
}

// orders is all orders of 0..n-1.
func orders(n int) [][]int {
	if n == 0 {
		return [][]int{nil}
	}
	var all [][]int
	for _, o := range orders(n - 1) {
		for at := range n {
			all = append(all, slices.Insert(slices.Clone(o), at, n-1))
		}
	}
	return all
}

// Six sailings from one place, with all orders of their arrivals, some there and some elsewhere: those elsewhere are looked at on the way.
func TestAllOrdersOfArrivals(t *testing.T) {
	for _, o := range orders(impl.MaxSailings) {
		for there := 1; there < 1<<impl.MaxSailings; there++ {
			var l []impl.Sailing
			first := impl.MaxSailings
			for i, arrive := range o {
				to := "Elsewhere"
				if there>>i&1 == 1 {
					to, first = "There", min(first, arrive)
				}
				l = append(l, sail(i+1, "A", to, 0, arrive+1))
			}
			wantRoute(t, l, "A", "There", 0, slices.Index(o, first)+1)
		}
		if t.Failed() {
			return
		}
	}
}

// Two sailings or more on each part of a way, so that many routes are open at once.
func TestManyOpenRoutes(t *testing.T) {
	parts := [][]string{
		{"AB", "AB", "BC", "BC", "CD", "CD"},
		{"AB", "AB", "AB", "BD", "BD", "BD"},
		{"AB", "AC", "BD", "CD", "AD", "BC"},
		{"AB", "AB", "AB", "AB", "BC", "CD"},
		{"AB", "BC", "BC", "BC", "BC", "CD"},
		{"AB", "AC", "AX", "BD", "CD", "XD"},
		{"AB", "BA", "AB", "BC", "CB", "CD"},
	}
	r := rand.New(rand.NewSource(5))
	many := [4]int{}
	for n := range 7000 {
		var l []impl.Sailing
		for _, at := range r.Perm(impl.MaxSailings) {
			p := parts[n%len(parts)][at]
			depart := 10*int(p[0]-'A')%40 + r.Intn(8)
			l = append(l, sail(0, p[:1], p[1:], depart, depart+1+r.Intn(9)))
		}
		many[checkRoute(t, numbered(l), "A", "D", 0)]++
	}
	if slices.Contains(many[:], 0) {
		t.Error("some length never came", many)
	}
}

// Routes that are made after others were looked at must find their places among those that are still open.
func TestRoutesMadeWhileOthersAreOpen(t *testing.T) {
	wantRoute(t, []impl.Sailing{
		sail(1, "A", "B", 2, 5), sail(2, "A", "B", 5, 11), sail(3, "A", "B", 0, 2),
		sail(4, "B", "C", 7, 12), sail(5, "B", "C", 8, 12), sail(6, "A", "B", 1, 7),
	}, "A", "C", 0, 1, 4)
	wantRoute(t, []impl.Sailing{
		sail(1, "A", "B", 6, 12), sail(2, "A", "B", 3, 5), sail(3, "B", "A", 5, 6),
		sail(4, "B", "C", 15, 18), sail(5, "A", "B", 1, 7), sail(6, "A", "C", 18, 22),
	}, "A", "C", 0, 1, 4)
	wantRoute(t, []impl.Sailing{
		sail(1, "C", "A", 9, 10), sail(2, "A", "C", 2, 5), sail(3, "A", "D", 11, 13),
		sail(4, "A", "C", 18, 20), sail(5, "A", "C", 4, 6), sail(6, "C", "D", 11, 13),
	}, "A", "D", 0, 3)
	wantRoute(t, []impl.Sailing{
		sail(1, "A", "B", 1, 2), sail(2, "B", "A", 5, 8), sail(3, "B", "A", 4, 5),
		sail(4, "B", "C", 3, 6), sail(5, "A", "B", 6, 9), sail(6, "A", "B", 1, 3),
	}, "A", "C", 0, 1, 4)
}
