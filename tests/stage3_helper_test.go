package tests

import (
	"slices"
	"strings"

	"loop.example/g00084/impl"
)

// sail is a good sailing without lanes, cabins or people.
func sail(id int, from, to string, depart, arrive int) impl.Sailing {
	return impl.Sailing{Id: id, From: from, To: to, Depart: depart, Arrive: arrive}
}

// fullSailing is a good sailing with all that one may have.
func fullSailing(id int) impl.Sailing {
	return impl.Sailing{
		Id: id, From: "Oslo", To: "Kiel", Depart: 10, Arrive: 20,
		Lanes:  []impl.Lane{{Length: 900, Height: 220}, {Length: 1, Height: 100}, {Length: 5000, Height: 500}},
		Cabins: []impl.Cabin{{Class: 1, Berths: 4}, {Class: 2, Berths: 2}, {Class: 3, Berths: 1}},
		Most:   120,
	}
}

// sameSailings holds the empty list and the nil list for the same.
func sameSailings(a, b []impl.Sailing) bool {
	return slices.EqualFunc(a, b, func(x, y impl.Sailing) bool {
		return x.Id == y.Id && x.From == y.From && x.To == y.To && x.Depart == y.Depart && x.Arrive == y.Arrive &&
			x.Most == y.Most && slices.Equal(x.Lanes, y.Lanes) && slices.Equal(x.Cabins, y.Cabins)
	})
}

func copySailings(l []impl.Sailing) []impl.Sailing {
	var c []impl.Sailing
	for _, s := range l {
		s.Lanes = append([]impl.Lane(nil), s.Lanes...)
		s.Cabins = append([]impl.Cabin(nil), s.Cabins...)
		c = append(c, s)
	}
	return c
}

func nameByWords(s string) bool {
	const letters = "abcdefghijklmnopqrstuvwxyzABCDEFGHIJKLMNOPQRSTUVWXYZ"
	return s != "" && len(s) <= 12 && strings.Trim(s, letters) == ""
}

func goodLanesByWords(lanes []impl.Lane) bool {
	wrong := len(lanes) > 4
	for _, x := range lanes {
		wrong = wrong || x.Length < 1 || x.Length > 5000 || x.Height < 100 || x.Height > 500
	}
	return !wrong
}

func goodCabinsByWords(cabins []impl.Cabin) bool {
	wrong := len(cabins) > 6
	for _, x := range cabins {
		wrong = wrong || x.Class < 1 || x.Class > 3 || x.Berths < 1 || x.Berths > 4
	}
	return !wrong
}

// goodSailingByWords is what chapter 3 calls a good sailing, by what is wrong with it.
func goodSailingByWords(s impl.Sailing) bool {
	wrong := s.Id < 1 || s.Id > 99 ||
		!nameByWords(s.From) || !nameByWords(s.To) || s.From == s.To ||
		s.Depart < 0 || s.Depart >= s.Arrive || s.Arrive > 10000 ||
		!goodLanesByWords(s.Lanes) || !goodCabinsByWords(s.Cabins) || s.Most < 0 || s.Most > 500
	return !wrong
}

// goodTimetableByWords holds each sailing against all behind it.
func goodTimetableByWords(l []impl.Sailing) bool {
	if len(l) > 6 {
		return false
	}
	for i, s := range l {
		if !goodSailingByWords(s) || slices.ContainsFunc(l[i+1:], func(o impl.Sailing) bool { return o.Id <= s.Id }) {
			return false
		}
	}
	return true
}

// legsByWords is the sailings of the legs, where they fit.
func legsByWords(l []impl.Sailing, legs []int) ([]impl.Sailing, bool) {
	if !goodTimetableByWords(l) || len(legs) == 0 || len(legs) > 3 {
		return nil, false
	}
	return sailingsThatFit(l, legs)
}

// sailingsThatFit relies on a good timetable.
func sailingsThatFit(l []impl.Sailing, legs []int) ([]impl.Sailing, bool) {
	var way []impl.Sailing
	for _, id := range legs {
		at := slices.IndexFunc(l, func(s impl.Sailing) bool { return s.Id == id })
		if at < 0 {
			return nil, false
		}
		way = append(way, l[at])
	}
	for i := 1; i < len(way); i++ {
		if way[i].From != way[i-1].To || way[i].Depart < way[i-1].Arrive {
			return nil, false
		}
	}
	return way, true
}

// routeByWords looks at every list of at most three Ids, shorter ones first, each length in the order of the numbers, and keeps the first with the least Arrive.
func routeByWords(l []impl.Sailing, from, to string, after int) ([]int, bool) {
	if !goodTimetableByWords(l) || !nameByWords(from) || !nameByWords(to) || from == to || after < 0 || after > 10000 {
		return nil, false
	}
	var ids, best []int
	for _, s := range l {
		ids = append(ids, s.Id)
	}
	arrive := 10001
	for _, legs := range lists(ids, 3)[1:] {
		way, fit := sailingsThatFit(l, legs)
		if !fit || way[0].From != from || way[0].Depart < after {
			continue
		}
		if last := way[len(way)-1]; last.To == to && last.Arrive < arrive {
			arrive, best = last.Arrive, legs
		}
	}
	return best, best != nil
}

// sailAnswers is all that the functions of chapter 3 that take a timetable answer to the same.
type sailAnswers struct {
	Good  bool
	Fit   bool
	Route []int
	Found bool
}

func askSailings(l []impl.Sailing, legs []int, from, to string, after int) sailAnswers {
	var r sailAnswers
	r.Good = impl.GoodTimetable(l)
	r.Fit = impl.LegsFit(l, legs)
	r.Route, r.Found = impl.EarliestRoute(l, from, to, after)
	return r
}

func sailingsByWords(l []impl.Sailing, legs []int, from, to string, after int) sailAnswers {
	var r sailAnswers
	r.Good = goodTimetableByWords(l)
	_, r.Fit = legsByWords(l, legs)
	r.Route, r.Found = routeByWords(l, from, to, after)
	return r
}

func sameSailAnswers(r, w sailAnswers) bool {
	return r.Good == w.Good && r.Fit == w.Fit && r.Found == w.Found && slices.Equal(r.Route, w.Route)
}
