package tests

import (
	"slices"

	"loop.example/g00084/impl"
)

func stay(by, lane, length, height int) impl.Stay {
	return impl.Stay{By: by, Lane: lane, Length: length, Height: height}
}

func lane(length, height int) impl.Lane { return impl.Lane{Length: length, Height: height} }

// goodDeckByWords is what chapter 4 calls a good deck, by what is wrong with it. Lengths are added only once none is out of bounds.
func goodDeckByWords(lanes []impl.Lane, stays []impl.Stay) bool {
	if !goodLanesByWords(lanes) || len(stays) > 60 {
		return false
	}
	for i, s := range stays {
		if s.By < 1 || s.By > 9999 || s.Lane < 0 || s.Lane >= len(lanes) || s.Length < 1 || s.Length > 2000 || s.Height < 1 || s.Height > 500 {
			return false
		}
		if s.Height > lanes[s.Lane].Height || hasStay(stays[i+1:], s.By) {
			return false
		}
	}
	for i, x := range lanes {
		if filledByWords(stays, i) > x.Length {
			return false
		}
	}
	return true
}

func hasStay(stays []impl.Stay, by int) bool {
	return slices.ContainsFunc(stays, func(s impl.Stay) bool { return s.By == by })
}

// filledByWords is how much of a lane is filled.
func filledByWords(stays []impl.Stay, lane int) int {
	sum := 0
	for _, s := range stays {
		if s.Lane == lane {
			sum += s.Length
		}
	}
	return sum
}

func freeByWords(lanes []impl.Lane, stays []impl.Stay) ([]int, bool) {
	if !goodDeckByWords(lanes, stays) {
		return nil, false
	}
	var free []int
	for i, x := range lanes {
		free = append(free, x.Length-filledByWords(stays, i))
	}
	return free, true
}

// placeByWords tries the stay in each lane: it may stand where the deck is good with it.
func placeByWords(lanes []impl.Lane, stays []impl.Stay, by, length, height int) ([]impl.Stay, int, bool) {
	if !goodDeckByWords(lanes, stays) {
		return nil, 0, false
	}
	for i := range lanes {
		more := append(slices.Clone(stays), stay(by, i, length, height))
		if goodDeckByWords(lanes, more) {
			return more, i, true
		}
	}
	return nil, 0, false
}

func takeOffByWords(lanes []impl.Lane, stays []impl.Stay, by int) ([]impl.Stay, bool) {
	if !goodDeckByWords(lanes, stays) || !hasStay(stays, by) {
		return nil, false
	}
	var left []impl.Stay
	for _, s := range stays {
		if s.By != by {
			left = append(left, s)
		}
	}
	return left, true
}

// deckAnswers is all that the functions of chapter 4 answer to the same.
type deckAnswers struct {
	Good   bool
	Free   []int
	FreeOk bool
	Placed []impl.Stay
	Lane   int
	Place  bool
	Left   []impl.Stay
	Took   bool
}

func askDeck(lanes []impl.Lane, stays []impl.Stay, by, length, height int) deckAnswers {
	var r deckAnswers
	r.Good = impl.GoodDeck(lanes, stays)
	r.Free, r.FreeOk = impl.FreeLengths(lanes, stays)
	r.Placed, r.Lane, r.Place = impl.PlaceCar(lanes, stays, by, length, height)
	r.Left, r.Took = impl.TakeOff(lanes, stays, by)
	return r
}

func deckByWords(lanes []impl.Lane, stays []impl.Stay, by, length, height int) deckAnswers {
	var r deckAnswers
	r.Good = goodDeckByWords(lanes, stays)
	r.Free, r.FreeOk = freeByWords(lanes, stays)
	r.Placed, r.Lane, r.Place = placeByWords(lanes, stays, by, length, height)
	r.Left, r.Took = takeOffByWords(lanes, stays, by)
	return r
}

func sameDeckAnswers(r, w deckAnswers) bool {
	return r.Good == w.Good && slices.Equal(r.Free, w.Free) && r.FreeOk == w.FreeOk &&
		slices.Equal(r.Placed, w.Placed) && r.Lane == w.Lane && r.Place == w.Place &&
		slices.Equal(r.Left, w.Left) && r.Took == w.Took
}
