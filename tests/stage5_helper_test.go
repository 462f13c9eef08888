package tests

import (
	"slices"

	"loop.example/g00084/impl"
)

func cabin(class, berths int) impl.Cabin { return impl.Cabin{Class: class, Berths: berths} }

// berths is a room by the berth, allOf a whole one.
func berths(by, cabin, many int) impl.Room { return impl.Room{By: by, Cabin: cabin, Many: many} }

func allOf(by, cabin, many int) impl.Room {
	return impl.Room{By: by, Cabin: cabin, Many: many, Whole: true}
}

func seat(by, many int) impl.Seat { return impl.Seat{By: by, Many: many} }

func hasRoom(rooms []impl.Room, by int) bool {
	return slices.ContainsFunc(rooms, func(r impl.Room) bool { return r.By == by })
}

// inCabin is the rooms of one cabin.
func inCabin(rooms []impl.Room, cabin int) []impl.Room {
	var inside []impl.Room
	for _, r := range rooms {
		if r.Cabin == cabin {
			inside = append(inside, r)
		}
	}
	return inside
}

func soldByWords(rooms []impl.Room) int {
	sum := 0
	for _, r := range rooms {
		sum += r.Many
	}
	return sum
}

// goodRoomsByWords is what chapter 5 calls good rooms: first each of them, then cabin by cabin. Berths are added only once none is out of bounds.
func goodRoomsByWords(cabins []impl.Cabin, rooms []impl.Room) bool {
	if !goodCabinsByWords(cabins) || len(rooms) > 60 {
		return false
	}
	for i, r := range rooms {
		if r.By < 1 || r.By > 9999 || r.Cabin < 0 || r.Cabin >= len(cabins) || r.Many < 1 || r.Many > 4 || hasRoom(rooms[i+1:], r.By) {
			return false
		}
	}
	for i, c := range cabins {
		inside := inCabin(rooms, i)
		if slices.ContainsFunc(inside, func(r impl.Room) bool { return r.Whole }) {
			if len(inside) != 1 || inside[0].Many != c.Berths {
				return false
			}
		} else if soldByWords(inside) > c.Berths {
			return false
		}
	}
	return true
}

func freeBerthsByWords(cabins []impl.Cabin, rooms []impl.Room) ([]int, bool) {
	if !goodRoomsByWords(cabins, rooms) {
		return nil, false
	}
	var free []int
	for i, c := range cabins {
		free = append(free, c.Berths-soldByWords(inCabin(rooms, i)))
	}
	return free, true
}

// mayAskByWords is what both ways of placing ask for.
func mayAskByWords(cabins []impl.Cabin, rooms []impl.Room, by, class int) bool {
	return goodRoomsByWords(cabins, rooms) && by >= 1 && by <= 9999 && !hasRoom(rooms, by) && class >= 1 && class <= 3
}

// wholeByWords looks through the cabins with a berth for each, or through all of the class where there is no such cabin.
func wholeByWords(cabins []impl.Cabin, rooms []impl.Room, by, class, people int) ([]impl.Room, int, bool) {
	if !mayAskByWords(cabins, rooms, by, class) || people < 1 || people > 20 {
		return nil, 0, false
	}
	var ofClass, great []int
	for i, c := range cabins {
		if c.Class == class {
			ofClass = append(ofClass, i)
			if c.Berths >= people {
				great = append(great, i)
			}
		}
	}
	if len(great) == 0 {
		great = ofClass
	}
	for _, i := range great {
		if len(inCabin(rooms, i)) == 0 {
			return append(slices.Clone(rooms), allOf(by, i, cabins[i].Berths)), i, true
		}
	}
	return nil, 0, false
}

// berthsByWords tries the room in each cabin of the class: it may be there where the rooms are good with it.
func berthsByWords(cabins []impl.Cabin, rooms []impl.Room, by, class, many int) ([]impl.Room, int, bool) {
	if !mayAskByWords(cabins, rooms, by, class) || many < 1 || many > 4 {
		return nil, 0, false
	}
	for i, c := range cabins {
		more := append(slices.Clone(rooms), berths(by, i, many))
		if c.Class == class && goodRoomsByWords(cabins, more) {
			return more, i, true
		}
	}
	return nil, 0, false
}

func goodSeatsByWords(most int, seats []impl.Seat) bool {
	if most < 0 || most > 500 || len(seats) > 60 {
		return false
	}
	sum := 0
	for i, s := range seats {
		alike := slices.ContainsFunc(seats[i+1:], func(o impl.Seat) bool { return o.By == s.By })
		if alike || s.By < 1 || s.By > 9999 || s.Many < 1 || s.Many > 20 {
			return false
		}
		sum += s.Many
	}
	return sum <= most
}

func takeSeatsByWords(most int, seats []impl.Seat, by, many int) ([]impl.Seat, bool) {
	more := append(slices.Clone(seats), seat(by, many))
	if !goodSeatsByWords(most, seats) || !goodSeatsByWords(most, more) {
		return nil, false
	}
	return more, true
}

// roomAnswers is all that the functions of chapter 5 that take rooms answer to the same.
type roomAnswers struct {
	Good     bool
	Free     []int
	FreeOk   bool
	Whole    []impl.Room
	WholeAt  int
	WholeOk  bool
	Berths   []impl.Room
	BerthsAt int
	BerthsOk bool
}

func askRooms(cabins []impl.Cabin, rooms []impl.Room, by, class, people, many int) roomAnswers {
	var r roomAnswers
	r.Good = impl.GoodRooms(cabins, rooms)
	r.Free, r.FreeOk = impl.FreeBerths(cabins, rooms)
	r.Whole, r.WholeAt, r.WholeOk = impl.PlaceWhole(cabins, rooms, by, class, people)
	r.Berths, r.BerthsAt, r.BerthsOk = impl.PlaceBerths(cabins, rooms, by, class, many)
	return r
}

func roomsByWords(cabins []impl.Cabin, rooms []impl.Room, by, class, people, many int) roomAnswers {
	var r roomAnswers
	r.Good = goodRoomsByWords(cabins, rooms)
	r.Free, r.FreeOk = freeBerthsByWords(cabins, rooms)
	r.Whole, r.WholeAt, r.WholeOk = wholeByWords(cabins, rooms, by, class, people)
	r.Berths, r.BerthsAt, r.BerthsOk = berthsByWords(cabins, rooms, by, class, many)
	return r
}

func sameRoomAnswers(r, w roomAnswers) bool {
	return r.Good == w.Good && slices.Equal(r.Free, w.Free) && r.FreeOk == w.FreeOk &&
		slices.Equal(r.Whole, w.Whole) && r.WholeAt == w.WholeAt && r.WholeOk == w.WholeOk &&
		slices.Equal(r.Berths, w.Berths) && r.BerthsAt == w.BerthsAt && r.BerthsOk == w.BerthsOk
}

// seatAnswers is all that the functions of chapter 5 that take seats answer to the same.
type seatAnswers struct {
	Good  bool
	Taken []impl.Seat
	Took  bool
}

func askSeats(most int, seats []impl.Seat, by, many int) seatAnswers {
	var r seatAnswers
	r.Good = impl.GoodSeats(most, seats)
	r.Taken, r.Took = impl.TakeSeats(most, seats, by, many)
	return r
}

func seatsByWords(most int, seats []impl.Seat, by, many int) seatAnswers {
	var r seatAnswers
	r.Good = goodSeatsByWords(most, seats)
	r.Taken, r.Took = takeSeatsByWords(most, seats, by, many)
	return r
}

func sameSeatAnswers(r, w seatAnswers) bool {
	return r.Good == w.Good && slices.Equal(r.Taken, w.Taken) && r.Took == w.Took
}
