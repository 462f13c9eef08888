package tests

import (
	"math"
	"slices"
	"strings"
	"testing"

	"loop.example/g00084/impl"
)

// changed is a good sailing with one thing changed.
func changed(change func(s *impl.Sailing)) impl.Sailing {
	s := fullSailing(50)
	change(&s)
	return s
}

// textsThatAreNoNames has the bytes just beside the letters among them.
func textsThatAreNoNames() []string {
	no := []string{"", "Abcdefghijklm", strings.Repeat("a", 100000), " ", "Os lo", " Oslo", "Oslo ", "Oslo1", "1", "-", "\x00", "Oslo\n", "Ålesund", "Troms\xc3\xb8", "\xff", "\u017f", "\u212a", "\u00e9"}
	for _, b := range []byte{'@', '[', '`', '{', '0', '9', 0, 31, 127, 128, 255} {
		no = append(no, string([]byte{b}), "A"+string([]byte{b}), string([]byte{b})+"z")
	}
	return no
}

func textsThatAreNames() []string {
	return []string{"a", "z", "A", "Z", "Oslo", "OSLO", "abcdefghijkl", "mnopqrstuvwx", "yzABCDEFGHIJ", "KLMNOPQRSTUV", "WXYZ"}
}

func lanesThatAreNotGood() map[string]impl.Lane {
	return map[string]impl.Lane{
		"nothing": {}, "length 0": {Length: 0, Height: 100}, "length below 0": {Length: -1, Height: 100}, "too long": {Length: 5001, Height: 100},
		"too low": {Length: 1, Height: 99}, "too high": {Length: 1, Height: 501}, "height below 0": {Length: 1, Height: -100},
		"the greatest length": {Length: math.MaxInt, Height: 100}, "the greatest height": {Length: 1, Height: math.MaxInt},
		"the least length": {Length: math.MinInt, Height: 100}, "the least height": {Length: 1, Height: math.MinInt},
	}
}

func cabinsThatAreNotGood() map[string]impl.Cabin {
	return map[string]impl.Cabin{
		"nothing": {}, "class 0": {Class: 0, Berths: 1}, "class 4": {Class: 4, Berths: 1}, "class below 0": {Class: -1, Berths: 1},
		"berths 0": {Class: 1, Berths: 0}, "berths 5": {Class: 1, Berths: 5}, "berths below 0": {Class: 1, Berths: -1},
		"the greatest class": {Class: math.MaxInt, Berths: 1}, "the greatest of berths": {Class: 1, Berths: math.MaxInt},
		"the least class": {Class: math.MinInt, Berths: 1}, "the least of berths": {Class: 1, Berths: math.MinInt},
	}
}

func sailingsThatAreNotGood() map[string]impl.Sailing {
	all := map[string]impl.Sailing{
		"nothing set":             {},
		"alike":                   changed(func(s *impl.Sailing) { s.To = s.From }),
		"departs ahead of 0":      changed(func(s *impl.Sailing) { s.Depart = -1 }),
		"departs at the least":    changed(func(s *impl.Sailing) { s.Depart = math.MinInt }),
		"departs when it arrives": changed(func(s *impl.Sailing) { s.Depart, s.Arrive = 20, 20 }),
		"departs later":           changed(func(s *impl.Sailing) { s.Depart, s.Arrive = 21, 20 }),
		"0 and 0":                 changed(func(s *impl.Sailing) { s.Depart, s.Arrive = 0, 0 }),
		"the last and the last":   changed(func(s *impl.Sailing) { s.Depart, s.Arrive = 10000, 10000 }),
		"arrives too late":        changed(func(s *impl.Sailing) { s.Arrive = 10001 }),
		"arrives at the greatest": changed(func(s *impl.Sailing) { s.Arrive = math.MaxInt }),
		"both below 0":            changed(func(s *impl.Sailing) { s.Depart, s.Arrive = -20, -10 }),
		"both too late":           changed(func(s *impl.Sailing) { s.Depart, s.Arrive = 10001, 10002 }),
		"too many lanes":          changed(func(s *impl.Sailing) { s.Lanes = slices.Repeat([]impl.Lane{{Length: 1, Height: 100}}, 5) }),
		"much too many lanes":     changed(func(s *impl.Sailing) { s.Lanes = slices.Repeat([]impl.Lane{{Length: 1, Height: 100}}, 100000) }),
		"too many cabins":         changed(func(s *impl.Sailing) { s.Cabins = slices.Repeat([]impl.Cabin{{Class: 1, Berths: 1}}, 7) }),
		"much too many cabins":    changed(func(s *impl.Sailing) { s.Cabins = slices.Repeat([]impl.Cabin{{Class: 1, Berths: 1}}, 100000) }),
		"people below 0":          changed(func(s *impl.Sailing) { s.Most = -1 }),
		"too many people":         changed(func(s *impl.Sailing) { s.Most = 501 }),
		"the greatest of people":  changed(func(s *impl.Sailing) { s.Most = math.MaxInt }),
		"the least of people":     changed(func(s *impl.Sailing) { s.Most = math.MinInt }),
	}
	for what, id := range map[string]int{"0": 0, "below 0": -1, "100": 100, "least": math.MinInt, "greatest": math.MaxInt} {
		all["the Id is "+what] = changed(func(s *impl.Sailing) { s.Id = id })
	}
	for _, name := range textsThatAreNoNames() {
		all["From is "+name[:min(20, len(name))]+"."] = changed(func(s *impl.Sailing) { s.From = name })
		all["To is "+name[:min(20, len(name))]+"."] = changed(func(s *impl.Sailing) { s.To = name })
	}
	for what, lane := range lanesThatAreNotGood() {
		for at := range 3 {
			all["lane "+string(rune('0'+at))+" has "+what] = changed(func(s *impl.Sailing) { s.Lanes[at] = lane })
		}
	}
	for what, cabin := range cabinsThatAreNotGood() {
		for at := range 3 {
			all["cabin "+string(rune('0'+at))+" has "+what] = changed(func(s *impl.Sailing) { s.Cabins[at] = cabin })
		}
	}
	return all
}

func TestSailingsThatAreNotGood(t *testing.T) {
	low, high := sail(1, "Oslo", "Kiel", 0, 10), sail(99, "Oslo", "Kiel", 0, 10)
	for what, s := range sailingsThatAreNotGood() {
		if goodSailingByWords(s) {
			t.Error("good by the words:", what)
		}
		if impl.GoodSailing(s) {
			t.Error("good:", what)
		}
		for _, l := range [][]impl.Sailing{{s}, {low, s}, {s, high}, {low, s, high}} {
			if r := askSailings(l, []int{l[0].Id}, "Oslo", "Kiel", 0); !sameSailAnswers(r, sailAnswers{}) {
				t.Errorf("%s: %+v", what, r)
			}
		}
	}
}

func TestSailingsThatAreGoodAtTheEdge(t *testing.T) {
	cases := map[string]impl.Sailing{
		"all of it":             fullSailing(50),
		"the first Id":          fullSailing(1),
		"the last Id":           fullSailing(99),
		"departs at 0":          changed(func(s *impl.Sailing) { s.Depart = 0 }),
		"arrives at 1":          changed(func(s *impl.Sailing) { s.Depart, s.Arrive = 0, 1 }),
		"arrives at the last":   changed(func(s *impl.Sailing) { s.Arrive = 10000 }),
		"departs just ahead":    changed(func(s *impl.Sailing) { s.Depart, s.Arrive = 9999, 10000 }),
		"no people":             changed(func(s *impl.Sailing) { s.Most = 0 }),
		"the most people":       changed(func(s *impl.Sailing) { s.Most = 500 }),
		"no lanes":              changed(func(s *impl.Sailing) { s.Lanes = nil }),
		"an empty list":         changed(func(s *impl.Sailing) { s.Lanes, s.Cabins = []impl.Lane{}, []impl.Cabin{} }),
		"no cabins":             changed(func(s *impl.Sailing) { s.Cabins = nil }),
		"four lanes":            changed(func(s *impl.Sailing) { s.Lanes = append(s.Lanes, impl.Lane{Length: 1, Height: 500}) }),
		"lanes alike":           changed(func(s *impl.Sailing) { s.Lanes = slices.Repeat([]impl.Lane{{Length: 5000, Height: 100}}, 4) }),
		"six cabins":            changed(func(s *impl.Sailing) { s.Cabins = slices.Concat(s.Cabins, s.Cabins) }),
		"last class and berths": changed(func(s *impl.Sailing) { s.Cabins = []impl.Cabin{{Class: 3, Berths: 4}, {Class: 1, Berths: 1}} }),
		"unlike by one letter":  changed(func(s *impl.Sailing) { s.From, s.To = "Oslo", "oslo" }),
		"one the other's head":  changed(func(s *impl.Sailing) { s.From, s.To = "Oslo", "Os" }),
	}
	for _, name := range textsThatAreNames() {
		cases["From is "+name] = changed(func(s *impl.Sailing) { s.From = name })
		cases["To is "+name] = changed(func(s *impl.Sailing) { s.From, s.To = "Vik", name })
	}
	for what, s := range cases {
		if !impl.GoodSailing(s) || !goodSailingByWords(s) || !impl.GoodTimetable([]impl.Sailing{s}) {
			t.Error(what)
		}
	}
}

// Every byte, alone and as the last of twelve, at both ends.
func TestEveryByteOfAName(t *testing.T) {
	for b := range 256 {
		one := string([]byte{byte(b)})
		for _, name := range []string{one, "abcdefghijk" + one, one + "abcdefghijk", "abcdefghijkl" + one} {
			want := nameByWords(name) && name != "Vik"
			there, back := sail(1, "Vik", name, 1, 2), sail(1, name, "Vik", 1, 2)
			if impl.GoodSailing(there) != want || impl.GoodSailing(back) != want {
				t.Errorf("%q", name)
			}
		}
	}
}

func sailingsWithIds(ids ...int) []impl.Sailing {
	var l []impl.Sailing
	for _, id := range ids {
		l = append(l, sail(id, "Oslo", "Kiel", 0, 10))
	}
	return l
}

func TestTimetablesThatAreNotGood(t *testing.T) {
	cases := map[string][]impl.Sailing{
		"too long":              sailingsWithIds(1, 2, 3, 4, 5, 6, 7),
		"much too long":         make([]impl.Sailing, 100000),
		"two alike":             sailingsWithIds(4, 4),
		"two alike at the end":  sailingsWithIds(1, 2, 99, 99),
		"they fall":             sailingsWithIds(2, 1),
		"they fall in the end":  sailingsWithIds(1, 3, 2),
		"they fall and rise":    sailingsWithIds(5, 1, 6),
		"alike, not neighbours": sailingsWithIds(5, 6, 5),
		"the last is not good":  sailingsWithIds(1, 2, 100),
		"the first is not good": sailingsWithIds(0, 1, 2),
	}
	for what, l := range cases {
		if goodTimetableByWords(l) {
			t.Error("good by the words:", what)
		}
		for _, legs := range [][]int{nil, {1}, {2}, {4}, {5}} {
			if r := askSailings(l, legs, "Oslo", "Kiel", 0); !sameSailAnswers(r, sailAnswers{}) {
				t.Errorf("%s: %+v", what, r)
			}
		}
	}
}

func TestTimetablesThatAreGoodAtTheEdge(t *testing.T) {
	cases := map[string][]impl.Sailing{
		"none":                    nil,
		"an empty list":           {},
		"one":                     sailingsWithIds(1),
		"six":                     sailingsWithIds(1, 2, 3, 4, 5, 6),
		"six far apart":           sailingsWithIds(1, 20, 40, 60, 80, 99),
		"in no order of times":    {sail(1, "A", "B", 50, 60), sail(2, "A", "B", 1, 2)},
		"with lanes and the like": {fullSailing(1), fullSailing(2), fullSailing(99)},
	}
	for what, l := range cases {
		if !impl.GoodTimetable(l) || !goodTimetableByWords(l) {
			t.Error(what)
		}
	}
}

func TestLegsThatAreWrong(t *testing.T) {
	l := []impl.Sailing{sail(3, "A", "B", 1, 2), sail(5, "B", "C", 2, 3), sail(7, "C", "A", 3, 4), sail(9, "A", "B", 4, 5)}
	if !impl.LegsFit(l, []int{3}) || !impl.LegsFit(l, []int{3, 5}) || !impl.LegsFit(l, []int{3, 5, 7}) || !impl.LegsFit(l, []int{5, 7, 9}) {
		t.Fatal("these fit")
	}
	cases := map[string][]int{
		"none":                    nil,
		"an empty list":           {},
		"too many, that fit":      {3, 5, 7, 9},
		"too many":                {3, 3, 3, 3},
		"much too many":           make([]int, 100000),
		"no Id":                   {4},
		"0":                       {0},
		"places, not Ids":         {1},
		"below 0":                 {-3},
		"the least":               {math.MinInt},
		"the greatest":            {math.MaxInt},
		"no Id behind":            {3, 4},
		"no Id ahead":             {4, 5},
		"no Id in the middle":     {3, 6, 7},
		"no Id at the end":        {3, 5, 8},
		"a nought at the end":     {3, 5, 0},
		"the greatest at the end": {3, 5, math.MaxInt},
	}
	for what, legs := range cases {
		if impl.LegsFit(l, legs) {
			t.Error("fit:", what)
		}
		if impl.LegsFit(nil, legs) {
			t.Error("fit without a timetable:", what)
		}
	}
	if impl.LegsFit(nil, []int{3}) {
		t.Error("legs of an empty timetable")
	}
}

func TestRoutesAskedForWrongly(t *testing.T) {
	l := []impl.Sailing{sail(1, "Oslo", "Kiel", 0, 10), sail(2, "Kiel", "Oslo", 10, 20), sail(3, "Oslo", "Kiel", 9999, 10000)}
	wantRoute(t, l, "Oslo", "Kiel", 0, 1)
	wantRoute(t, l, "Oslo", "Kiel", 9999, 3)
	wantRoute(t, l, "Oslo", "Oslo", 0) // there would be legs 1 and 2
	wantRoute(t, l, "Kiel", "Kiel", 0)
	wantRoute(t, l, "Nowhere", "Nowhere", 0)
	for _, name := range textsThatAreNoNames() {
		wantRoute(t, l, name, "Kiel", 0)
		wantRoute(t, l, "Oslo", name, 0)
		wantRoute(t, l, name, name, 0)
		wantRoute(t, l, name, name+"x", 0)
	}
	for _, after := range []int{math.MinInt, -10000, -1, 10000, 10001, math.MaxInt} {
		wantRoute(t, l, "Oslo", "Kiel", after)
	}
}

func TestPairsThatAreWrong(t *testing.T) {
	far := []int{math.MinInt, math.MinInt + 1, math.MinInt / 3, -1000, -334, -333, math.MaxInt / 3, math.MaxInt - 1, math.MaxInt}
	sailings, resources := slices.Clone(far), slices.Clone(far)
	for n := -5; n <= 105; n++ {
		sailings, resources = append(sailings, n), append(resources, n)
	}
	for _, s := range sailings {
		for _, r := range resources {
			want := -1
			if s >= 1 && s <= 99 && (r == 0 || r == 1 || r == 2) {
				want = 1000 + s + s + s + r
			}
			if k := impl.PairKey(s, r); k != want {
				t.Errorf("%d %d: got %d, want %d", s, r, k, want)
			}
		}
	}
}

// sailingsWithRoom has the same lists, with room behind their length that holds what would be read otherwise.
func sailingsWithRoom(l []impl.Sailing, behind []impl.Sailing) []impl.Sailing {
	var c []impl.Sailing
	for _, s := range l {
		s.Lanes = append(slices.Clone(s.Lanes), slices.Repeat([]impl.Lane{{Length: 777, Height: 777}}, 4)...)[:len(s.Lanes)]
		s.Cabins = append(slices.Clone(s.Cabins), slices.Repeat([]impl.Cabin{{Class: 777, Berths: 777}}, 4)...)[:len(s.Cabins)]
		c = append(c, s)
	}
	return append(c, behind...)[:len(l)]
}

func legsWithRoom(legs []int, behind ...int) []int {
	return append(slices.Clone(legs), behind...)[:len(legs)]
}

// wholeSailings is the sailings with the room behind all their lists.
func wholeSailings(l []impl.Sailing) []impl.Sailing {
	var c []impl.Sailing
	for _, s := range l[:cap(l)] {
		s.Lanes, s.Cabins = s.Lanes[:cap(s.Lanes)], s.Cabins[:cap(s.Cabins)]
		c = append(c, s)
	}
	return c
}

// scribbleSailings writes over all lists, the room behind them too.
func scribbleSailings(l []impl.Sailing) {
	for _, s := range wholeSailings(l) {
		for i := range s.Lanes {
			s.Lanes[i] = impl.Lane{Length: -7}
		}
		for i := range s.Cabins {
			s.Cabins[i] = impl.Cabin{Class: -7}
		}
	}
	l = l[:cap(l)]
	for i := range l {
		l[i] = impl.Sailing{Id: -7}
	}
}

func scribbleNumbers(l []int) {
	l = l[:cap(l)]
	for i := range l {
		l[i] = -7
	}
}

// eachSailForMemory goes over timetables, legs and places of many kinds.
func eachSailForMemory(do func(l []impl.Sailing, legs []int, from, to string, after int)) {
	notGood := fullSailing(5)
	notGood.Lanes[1].Height = 0
	all := [][]impl.Sailing{
		nil,
		{fullSailing(1)},
		{sail(1, "C", "Kiel", 6, 9), sail(2, "Oslo", "B", 1, 2), sail(3, "B", "C", 3, 5)},
		{sail(1, "Oslo", "B", 1, 2), sail(2, "Oslo", "Kiel", 1, 9), fullSailing(4), sail(6, "B", "Kiel", 2, 8)},
		sailingsWithIds(1, 2, 3, 4, 5, 6),
		sailingsWithIds(1, 2, 3, 4, 5, 6, 7),
		{fullSailing(3), fullSailing(2)},
		{fullSailing(1), notGood},
	}
	for _, l := range all {
		for _, legs := range [][]int{nil, {1}, {2, 3}, {2, 3, 1}, {1, 6}, {1, 2, 3, 4}, {-1}} {
			for _, to := range []string{"Kiel", "B", "Oslo", ""} {
				do(l, legs, "Oslo", to, 0)
				do(l, legs, "Oslo", to, 2)
			}
		}
	}
}

func TestNothingIsWrittenIntoSailings(t *testing.T) {
	eachSailForMemory(func(plain []impl.Sailing, plainLegs []int, from, to string, after int) {
		l, legs := sailingsWithRoom(plain, sailingsWithIds(97, 98, 99)), legsWithRoom(plainLegs, 1, 2, 3)
		was, wasLegs := copySailings(wholeSailings(l)), slices.Clone(legs[:cap(legs)])
		r := askSailings(l, legs, from, to, after)
		for _, s := range l {
			impl.GoodSailing(s)
		}
		if !sameSailings(wholeSailings(l), was) || !slices.Equal(legs[:cap(legs)], wasLegs) {
			t.Fatalf("written into: %+v %v", plain, plainLegs)
		}
		scribbleNumbers(r.Route)
		if !sameSailings(wholeSailings(l), was) || !slices.Equal(legs[:cap(legs)], wasLegs) {
			t.Fatalf("an answer shares memory with %+v %v", plain, plainLegs)
		}
	})
}

func TestRoutesStayWhenTheTimetableChanges(t *testing.T) {
	eachSailForMemory(func(plain []impl.Sailing, plainLegs []int, from, to string, after int) {
		l, legs := sailingsWithRoom(plain, sailingsWithIds(97, 98, 99)), legsWithRoom(plainLegs, 1, 2, 3)
		r := askSailings(l, legs, from, to, after)
		was := slices.Clone(r.Route)
		scribbleSailings(l)
		scribbleNumbers(legs)
		if !slices.Equal(r.Route, was) {
			t.Fatalf("an answer changed with its argument: %+v", plain)
		}
	})
}

func TestTwoRoutesShareNothing(t *testing.T) {
	eachSailForMemory(func(l []impl.Sailing, legs []int, from, to string, after int) {
		first, second := askSailings(l, legs, from, to, after), askSailings(l, legs, from, to, after)
		was := slices.Clone(second.Route)
		scribbleNumbers(first.Route)
		if !slices.Equal(second.Route, was) || !sameSailAnswers(askSailings(l, legs, from, to, after), second) {
			t.Fatalf("two answers share memory: %+v", l)
		}
	})
}

// Behind the length stand sailings that would make a way or come earlier, and legs that would fit or not.
func TestRoomBehindSailingsIsNotRead(t *testing.T) {
	earlier := []impl.Sailing{sail(97, "Oslo", "Kiel", 2, 3), sail(98, "Oslo", "B", 2, 3), sail(99, "B", "Kiel", 2, 3)}
	for _, behind := range [][]impl.Sailing{earlier, make([]impl.Sailing, 5), sailingsWithIds(1, 2, 3)} {
		eachSailForMemory(func(plain []impl.Sailing, plainLegs []int, from, to string, after int) {
			want := sailingsByWords(plain, plainLegs, from, to, after)
			for _, more := range []int{0, 1, 3, 97} {
				r := askSailings(sailingsWithRoom(plain, behind), legsWithRoom(plainLegs, more, more), from, to, after)
				if !sameSailAnswers(r, want) {
					t.Fatalf("%+v, legs %v, %s to %s: got %+v, want %+v", plain, plainLegs, from, to, r, want)
				}
				if slices.ContainsFunc(r.Route[:cap(r.Route)], func(id int) bool { return id >= 97 }) {
					t.Fatalf("room was handed out: %+v", plain)
				}
			}
		})
	}
	for _, s := range sailingsWithRoom([]impl.Sailing{fullSailing(1), sail(2, "A", "B", 1, 2)}, nil) {
		if !impl.GoodSailing(s) {
			t.Errorf("lanes or cabins behind their length are read: %+v", s)
		}
	}
}

func TestEmptyAndNilTimetablesAreTheSame(t *testing.T) {
	empty, none := askSailings([]impl.Sailing{}, []int{}, "A", "B", 0), askSailings(nil, nil, "A", "B", 0)
	if want := (sailAnswers{Good: true}); !sameSailAnswers(empty, want) || !sameSailAnswers(none, want) {
		t.Error(empty, none)
	}
}
