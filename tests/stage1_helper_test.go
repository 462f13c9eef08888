package tests

import (
	"slices"

	"loop.example/g00084/impl"
)

// sameArena holds the empty list and the nil list for the same.
func sameArena(a, b impl.Arena) bool {
	return slices.Equal(a.Slots, b.Slots) && slices.Equal(a.Free, b.Free)
}

func copyArena(a impl.Arena) impl.Arena {
	return impl.Arena{
		Slots: append([]impl.Slot(nil), a.Slots...),
		Free:  append([]int(nil), a.Free...),
	}
}

// goodByWords is what chapter 1 calls a good arena, told in another way than the program does.
func goodByWords(a impl.Arena) bool {
	if len(a.Slots) > 20 {
		return false
	}
	var wanted []int
	for i, s := range a.Slots {
		switch {
		case s.Used && (s.Age < 0 || s.Age > 8):
			return false
		case !s.Used && (s.Age < 0 || s.Age > 9 || s.Value != 0):
			return false
		case !s.Used && s.Age < 9:
			wanted = append(wanted, i)
		}
	}
	listed := slices.Clone(a.Free)
	slices.Sort(listed)
	return slices.Equal(listed, wanted)
}

// codeByWords is the code of a handle, in the order that chapter 1 tells.
func codeByWords(a impl.Arena, h impl.Handle) int {
	switch {
	case !goodByWords(a):
		return impl.ArenaBad
	case h.Slot < 0 || h.Slot >= len(a.Slots):
		return impl.ArenaNone
	case a.Slots[h.Slot].Age != h.Age:
		return impl.ArenaOld
	case !a.Slots[h.Slot].Used:
		return impl.ArenaNone
	}
	return impl.ArenaOk
}

// answers is all that the functions of chapter 1 answer to one arena, handle and value.
type answers struct {
	Good     bool
	Put      impl.Arena
	Handle   impl.Handle
	PutCode  int
	Got      int
	GetCode  int
	Set      impl.Arena
	SetCode  int
	Drop     impl.Arena
	DropCode int
	Values   []int
	Told     bool
}

func askAll(a impl.Arena, h impl.Handle, value int) answers {
	var r answers
	r.Good = impl.GoodArena(a)
	r.Put, r.Handle, r.PutCode = impl.PutRecord(a, value)
	r.Got, r.GetCode = impl.GetRecord(a, h)
	r.Set, r.SetCode = impl.SetRecord(a, h, value)
	r.Drop, r.DropCode = impl.DropRecord(a, h)
	r.Values, r.Told = impl.RecordsIn(a)
	return r
}

// askByWords is what the words of chapter 1 make of the same.
func askByWords(a impl.Arena, h impl.Handle, value int) answers {
	if !goodByWords(a) {
		return answers{PutCode: impl.ArenaBad, GetCode: impl.ArenaBad, SetCode: impl.ArenaBad, DropCode: impl.ArenaBad}
	}
	code := codeByWords(a, h)
	r := answers{Good: true, GetCode: code, SetCode: code, DropCode: code, Told: true}
	r.Put, r.Handle, r.PutCode = putByWords(a, value)
	r.Set, r.Drop = copyArena(a), copyArena(a)
	if code == impl.ArenaOk {
		r.Got = a.Slots[h.Slot].Value
		r.Set.Slots[h.Slot].Value = value
		r.Drop.Slots[h.Slot] = impl.Slot{Age: h.Age + 1}
		if h.Age+1 < 9 {
			r.Drop.Free = append(r.Drop.Free, h.Slot)
		}
	}
	for _, s := range a.Slots {
		if s.Used {
			r.Values = append(r.Values, s.Value)
		}
	}
	return r
}

func putByWords(a impl.Arena, value int) (impl.Arena, impl.Handle, int) {
	b := copyArena(a)
	i := len(b.Slots)
	switch {
	case len(b.Free) > 0:
		i = b.Free[len(b.Free)-1]
		b.Free = b.Free[:len(b.Free)-1]
	case i == 20:
		return b, impl.Handle{}, impl.ArenaFull
	default:
		b.Slots = append(b.Slots, impl.Slot{})
	}
	b.Slots[i].Used, b.Slots[i].Value = true, value
	return b, impl.Handle{Slot: i, Age: b.Slots[i].Age}, impl.ArenaOk
}

func sameAnswers(r, w answers) bool {
	return r.Good == w.Good && r.Handle == w.Handle && r.Got == w.Got && r.Told == w.Told &&
		r.PutCode == w.PutCode && r.GetCode == w.GetCode && r.SetCode == w.SetCode && r.DropCode == w.DropCode &&
		sameArena(r.Put, w.Put) && sameArena(r.Set, w.Set) && sameArena(r.Drop, w.Drop) && slices.Equal(r.Values, w.Values)
}
