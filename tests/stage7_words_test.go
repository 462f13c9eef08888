package tests

import (
	"fmt"
	"slices"
	"sort"
	"strings"

	"loop.example/g00084/impl"
)

// Chapter 7 told a second time: nothing here gives up half way, all is worked out on a copy, and each kind of operation by itself.

// fieldsByWords are the fields that an operation of a kind has.
var fieldsByWords = map[int]string{
	impl.OpQuote:    "legs party",
	impl.OpHold:     "owner legs party until",
	impl.OpBook:     "owner legs party",
	impl.OpConfirm:  "name",
	impl.OpAmend:    "name legs party",
	impl.OpCancel:   "name now",
	impl.OpTransfer: "owner name",
	impl.OpExpire:   "name now",
	impl.OpManifest: "leg",
}

// goodOpByWords takes each field that is named away, if it is good: nothing is left then but the Kind.
func goodOpByWords(op impl.Op) bool {
	fields, good := fieldsByWords[op.Kind]
	rest := op
	for _, field := range strings.Fields(fields) {
		switch field {
		case "owner":
			good = good && nameByWords(op.Owner)
			rest.Owner = ""
		case "name":
			good = good && op.Name >= 1 && op.Name <= 30
			rest.Name = 0
		case "legs":
			good = good && len(op.Legs) >= 1 && len(op.Legs) <= 3
			rest.Legs = nil
		case "leg":
			good = good && len(op.Legs) == 1
			rest.Legs = nil
		case "party":
			good = good && goodPartyByWords(op.Party)
			rest.Party = impl.Party{}
		case "until":
			good = good && op.Until >= 0 && op.Until <= 10000
			rest.Until = 0
		case "now":
			good = good && op.Now >= 0 && op.Now <= 10000
			rest.Now = 0
		}
	}
	return good && rest.Owner == "" && rest.Name == 0 && len(rest.Legs) == 0 && rest.Party == impl.Party{} && rest.Until == 0 && rest.Now == 0
}

func hasCar(p impl.Party) bool   { return p.Length != 0 || p.Height != 0 }
func hasCabin(p impl.Party) bool { return p.Class != 0 || p.Whole || p.Berths != 0 }

func liveByWords(b impl.Booking) bool { return b.State == 1 || b.State == 2 }

func goodBookingByWords(l []impl.Sailing, b impl.Booking) bool {
	if _, fit := legsByWords(l, b.Legs); !fit || !nameByWords(b.Owner) || !goodPartyByWords(b.Party) {
		return false
	}
	if b.By < 1 || b.By > 9999 || b.Price < 0 || b.Price > 1000000 {
		return false
	}
	switch b.State {
	case 1, 4:
		return b.Until >= 0 && b.Until <= 10000
	case 2, 3:
		return b.Until == 0
	}
	return false
}

// heldByWords writes down what ought to stand in the Load of a sailing, by the Bookings.
func heldByWords(o impl.Office, id int) []string {
	var held []string
	for _, b := range o.Bookings {
		if !liveByWords(b) || !slices.Contains(b.Legs, id) {
			continue
		}
		p := b.Party
		if hasCar(p) {
			held = append(held, fmt.Sprint("car ", b.By, p.Length, p.Height))
		}
		if hasCabin(p) && p.Whole {
			held = append(held, fmt.Sprint("whole ", b.By, p.Class))
		} else if hasCabin(p) {
			held = append(held, fmt.Sprint("berths ", b.By, p.Class, p.Berths))
		}
		held = append(held, fmt.Sprint("people ", b.By, p.People))
	}
	sort.Strings(held)
	return held
}

// standsByWords writes down what does stand there.
func standsByWords(s impl.Sailing, load impl.Load) []string {
	var all []string
	for _, x := range load.Stays {
		all = append(all, fmt.Sprint("car ", x.By, x.Length, x.Height))
	}
	for _, x := range load.Rooms {
		if class := s.Cabins[x.Cabin].Class; x.Whole {
			all = append(all, fmt.Sprint("whole ", x.By, class))
		} else {
			all = append(all, fmt.Sprint("berths ", x.By, class, x.Many))
		}
	}
	for _, x := range load.Seats {
		all = append(all, fmt.Sprint("people ", x.By, x.Many))
	}
	sort.Strings(all)
	return all
}

func goodOfficeByWords(o impl.Office) bool {
	if !goodTimetableByWords(o.Sailings) || len(o.Loads) != len(o.Sailings) || len(o.Bookings) > 30 {
		return false
	}
	bys := map[int]int{}
	for i, b := range o.Bookings {
		bys[b.By]++
		if b.Name != i+1 || bys[b.By] > 1 || !goodBookingByWords(o.Sailings, b) {
			return false
		}
	}
	for i, s := range o.Sailings {
		load := o.Loads[i]
		if !goodDeckByWords(s.Lanes, load.Stays) || !goodRoomsByWords(s.Cabins, load.Rooms) || !goodSeatsByWords(s.Most, load.Seats) {
			return false
		}
		if !slices.Equal(heldByWords(o, s.Id), standsByWords(s, load)) {
			return false
		}
	}
	return true
}

func newOfficeByWords(l []impl.Sailing) (impl.Office, bool) {
	if !goodTimetableByWords(l) {
		return impl.Office{}, false
	}
	o := impl.Office{Sailings: copySailings(l)}
	for range l {
		o.Loads = append(o.Loads, impl.Load{})
	}
	return o, true
}

// dropByWords takes away what the by has placed, wherever it stands.
func dropByWords(o *impl.Office, by int) {
	for i := range o.Loads {
		load := &o.Loads[i]
		load.Stays = slices.DeleteFunc(load.Stays, func(x impl.Stay) bool { return x.By == by })
		load.Rooms = slices.DeleteFunc(load.Rooms, func(x impl.Room) bool { return x.By == by })
		load.Seats = slices.DeleteFunc(load.Seats, func(x impl.Seat) bool { return x.By == by })
	}
}

// placeAllByWords places a party leg by leg, and is the first code that stands in the way.
func placeAllByWords(o *impl.Office, by int, legs []int, p impl.Party) int {
	for _, id := range legs {
		at := slices.IndexFunc(o.Sailings, func(s impl.Sailing) bool { return s.Id == id })
		s, load := o.Sailings[at], &o.Loads[at]
		good := true
		if hasCar(p) {
			if load.Stays, _, good = placeByWords(s.Lanes, load.Stays, by, p.Length, p.Height); !good {
				return 5
			}
		}
		if hasCabin(p) && p.Whole {
			load.Rooms, _, good = wholeByWords(s.Cabins, load.Rooms, by, p.Class, p.People)
		} else if hasCabin(p) {
			load.Rooms, _, good = berthsByWords(s.Cabins, load.Rooms, by, p.Class, p.Berths)
		}
		if !good {
			return 6
		}
		if load.Seats, good = takeSeatsByWords(s.Most, load.Seats, by, p.People); !good {
			return 7
		}
	}
	return 0
}

// stateByWords is the code of an operation on a Booking that there is.
func stateByWords(b impl.Booking, op impl.Op) int {
	mayBe := liveByWords(b)
	if op.Kind == impl.OpConfirm || op.Kind == impl.OpExpire {
		mayBe = b.State == 1
	}
	if !mayBe || op.Kind == impl.OpExpire && b.Until >= op.Now {
		return 4
	}
	return 0
}

// codeAheadByWords is the code that stands ahead of all that is placed.
func codeAheadByWords(o impl.Office, op impl.Op) int {
	if !goodOpByWords(op) {
		return 1
	}
	fields := fieldsByWords[op.Kind]
	if _, fit := legsByWords(o.Sailings, op.Legs); strings.Contains(fields, "leg") && !fit {
		return 2
	}
	if !strings.Contains(fields, "name") {
		return 0
	}
	if op.Name > len(o.Bookings) {
		return 3
	}
	return stateByWords(o.Bookings[op.Name-1], op)
}

// newBookingByWords is what OpHold and OpBook do.
func newBookingByWords(o *impl.Office, by int, op impl.Op) impl.Answer {
	if code := placeAllByWords(o, by, op.Legs, op.Party); code != 0 {
		return impl.Answer{Code: code}
	}
	if len(o.Bookings) == 30 {
		return impl.Answer{Code: 8}
	}
	price, _ := priceByWords(op.Party, len(op.Legs))
	b := impl.Booking{Name: len(o.Bookings) + 1, By: by, Owner: op.Owner, Legs: slices.Clone(op.Legs), Party: op.Party, State: 2, Price: price}
	if op.Kind == impl.OpHold {
		b.State, b.Until = 1, op.Until
	}
	o.Bookings = append(o.Bookings, b)
	return impl.Answer{Name: b.Name, Price: price}
}

// changeByWords is what the operations with a Name do.
func changeByWords(o *impl.Office, by int, op impl.Op) impl.Answer {
	b := &o.Bookings[op.Name-1]
	a := impl.Answer{Name: op.Name}
	switch op.Kind {
	case impl.OpConfirm:
		b.State, b.Until = 2, 0
		a.Price = b.Price
	case impl.OpAmend:
		dropByWords(o, b.By)
		if code := placeAllByWords(o, by, op.Legs, op.Party); code != 0 {
			return impl.Answer{Code: code}
		}
		b.By, b.Legs, b.Party = by, slices.Clone(op.Legs), op.Party
		b.Price, _ = priceByWords(op.Party, len(op.Legs))
		a.Price = b.Price
	case impl.OpCancel:
		dropByWords(o, b.By)
		b.State, b.Until = 3, 0
		way, _ := legsByWords(o.Sailings, b.Legs)
		a.Price = refundByWords(b.Price, way[0].Depart-op.Now)
	case impl.OpTransfer:
		b.Owner = op.Owner
	case impl.OpExpire:
		dropByWords(o, b.By)
		b.State = 4
	}
	return a
}

func doOpByWords(o impl.Office, by int, op impl.Op) (impl.Office, impl.Answer, bool) {
	taken := slices.ContainsFunc(o.Bookings, func(b impl.Booking) bool { return b.By == by })
	if !goodOfficeByWords(o) || by < 1 || by > 9999 || taken {
		return impl.Office{}, impl.Answer{}, false
	}
	if code := codeAheadByWords(o, op); code != 0 {
		return copyOffice(o), impl.Answer{Code: code}, true
	}
	then := copyOffice(o)
	var a impl.Answer
	switch op.Kind {
	case impl.OpQuote:
		if a.Code = placeAllByWords(&then, by, op.Legs, op.Party); a.Code == 0 {
			a.Price, _ = priceByWords(op.Party, len(op.Legs))
		}
		then = copyOffice(o)
	case impl.OpHold, impl.OpBook:
		a = newBookingByWords(&then, by, op)
	case impl.OpManifest:
		a.Rows, _ = manifestByWords(o, op.Legs[0])
	default:
		a = changeByWords(&then, by, op)
	}
	if a.Code != 0 {
		then = copyOffice(o)
	}
	return then, a, true
}

func doAllByWords(o impl.Office, bys []int, ops []impl.Op) (impl.Office, []impl.Answer, bool) {
	if !goodOfficeByWords(o) || len(ops) > 200 || len(ops) != len(bys) {
		return impl.Office{}, nil, false
	}
	var all []impl.Answer
	for i, op := range ops {
		then, a, good := doOpByWords(o, bys[i], op)
		if !good {
			return impl.Office{}, nil, false
		}
		o, all = then, append(all, a)
	}
	return copyOffice(o), all, true
}

func manifestByWords(o impl.Office, id int) ([]impl.Row, bool) {
	at := slices.IndexFunc(o.Sailings, func(s impl.Sailing) bool { return s.Id == id })
	if !goodOfficeByWords(o) || at < 0 {
		return nil, false
	}
	return rowsByWords(o, at), true
}

// rowsByWords goes by the seats: of each that has one there is a Booking.
func rowsByWords(o impl.Office, at int) []impl.Row {
	lanes, cabins := map[int]int{}, map[int]int{}
	for _, x := range o.Loads[at].Stays {
		lanes[x.By] = x.Lane
	}
	for _, x := range o.Loads[at].Rooms {
		cabins[x.By] = x.Cabin
	}
	var rows []impl.Row
	for _, x := range o.Loads[at].Seats {
		b := o.Bookings[slices.IndexFunc(o.Bookings, func(b impl.Booking) bool { return b.By == x.By })]
		row := impl.Row{Name: b.Name, Owner: b.Owner, People: x.Many, Lane: -1, Cabin: -1}
		if lane, has := lanes[x.By]; has {
			row.Lane = lane
		}
		if cabin, has := cabins[x.By]; has {
			row.Cabin = cabin
		}
		rows = append(rows, row)
	}
	slices.SortFunc(rows, func(a, b impl.Row) int { return a.Name - b.Name })
	return rows
}

func roomLeftByWords(o impl.Office, id int) ([]int, []int, int, bool) {
	at := slices.IndexFunc(o.Sailings, func(s impl.Sailing) bool { return s.Id == id })
	if !goodOfficeByWords(o) || at < 0 {
		return nil, nil, 0, false
	}
	s, load := o.Sailings[at], o.Loads[at]
	lengths, _ := freeByWords(s.Lanes, load.Stays)
	free, _ := freeBerthsByWords(s.Cabins, load.Rooms)
	left := s.Most
	for _, x := range load.Seats {
		left -= x.Many
	}
	return lengths, free, left, true
}
