package impl

const MaxSlots = 20
const MaxAge = 9
const ArenaOk = 0
const ArenaBad = 1
const ArenaFull = 2
const ArenaOld = 3
const ArenaNone = 4

type Handle struct {
	Slot int
	Age  int
}

type Slot struct {
	Age   int
	Used  bool
	Value int
}

type Arena struct {
	Slots []Slot
	Free  []int
}

// record is a slot for a value of any kind; its fields are those of Slot, so
// that record[int] and Slot convert into each other.
type record[V comparable] struct {
	Age   int
	Used  bool
	Value V
}

// store is an arena of records of any kind. It is always a copy of its own:
// its methods may write into it.
type store[V comparable] struct {
	records []record[V]
	free    []int
}

func GoodArena(a Arena) bool {
	return storeOf(a).good()
}

func PutRecord(a Arena, value int) (Arena, Handle, int) {
	s := storeOf(a)
	if !s.good() {
		return Arena{}, Handle{}, ArenaBad
	}
	h, code := s.put(value)
	return arenaOf(s), h, code
}

func GetRecord(a Arena, h Handle) (int, int) {
	s := storeOf(a)
	if !s.good() {
		return 0, ArenaBad
	}
	return s.get(h)
}

func SetRecord(a Arena, h Handle, value int) (Arena, int) {
	s := storeOf(a)
	if !s.good() {
		return Arena{}, ArenaBad
	}
	code := s.set(h, value)
	return arenaOf(s), code
}

func DropRecord(a Arena, h Handle) (Arena, int) {
	s := storeOf(a)
	if !s.good() {
		return Arena{}, ArenaBad
	}
	code := s.drop(h)
	return arenaOf(s), code
}

func RecordsIn(a Arena) ([]int, bool) {
	s := storeOf(a)
	if !s.good() {
		return nil, false
	}
	return s.values(), true
}

func storeOf(a Arena) store[int] {
	var s store[int]
	for _, slot := range a.Slots {
		s.records = append(s.records, record[int](slot))
	}
	s.free = append(s.free, a.Free...)
	return s
}

// arenaOf copies once more, so that a number taken from the end of the free
// ones does not go out behind the list's length.
func arenaOf(s store[int]) Arena {
	var a Arena
	for _, r := range s.records {
		a.Slots = append(a.Slots, Slot(r))
	}
	a.Free = append(a.Free, s.free...)
	return a
}

func (r record[V]) good() bool {
	if r.Age < 0 || r.Age > MaxAge {
		return false
	}
	if r.Used {
		return r.Age < MaxAge
	}
	var none V
	return r.Value == none
}

// isFree: at MaxAge there is no age left by which an old handle could be told
// from a new one, so such a record is never used again.
func (r record[V]) isFree() bool {
	return !r.Used && r.Age < MaxAge
}

func (s store[V]) good() bool {
	if len(s.records) > MaxSlots {
		return false
	}
	for _, r := range s.records {
		if !r.good() {
			return false
		}
	}
	return s.freeListed()
}

// freeListed tells whether the list of free slots names all of them, each
// once. It relies on there being at most MaxSlots records.
func (s store[V]) freeListed() bool {
	var listed [MaxSlots]bool
	for _, number := range s.free {
		if !s.has(number) || !s.records[number].isFree() || listed[number] {
			return false
		}
		listed[number] = true
	}
	for number, r := range s.records {
		if r.isFree() && !listed[number] {
			return false
		}
	}
	return true
}

func (s store[V]) has(number int) bool {
	return number >= 0 && number < len(s.records)
}

func (s store[V]) handleOf(number int) Handle {
	return Handle{Slot: number, Age: s.records[number].Age}
}

// codeOf is what stands in a handle's way, ArenaOk if it is live.
func (s store[V]) codeOf(h Handle) int {
	if !s.has(h.Slot) {
		return ArenaNone
	}
	if s.handleOf(h.Slot) != h {
		return ArenaOld
	}
	if !s.records[h.Slot].Used {
		return ArenaNone
	}
	return ArenaOk
}

func (s *store[V]) put(value V) (Handle, int) {
	number, ok := s.takeFree()
	if !ok {
		return Handle{}, ArenaFull
	}
	s.records[number].Used = true
	s.records[number].Value = value
	return s.handleOf(number), ArenaOk
}

// takeFree takes the last free slot off its list, or makes a new one where
// none is free and there is room.
func (s *store[V]) takeFree() (int, bool) {
	if last := len(s.free) - 1; last >= 0 {
		number := s.free[last]
		s.free = s.free[:last]
		return number, true
	}
	if len(s.records) == MaxSlots {
		return 0, false
	}
	s.records = append(s.records, record[V]{})
	return len(s.records) - 1, true
}

func (s store[V]) get(h Handle) (V, int) {
	if code := s.codeOf(h); code != ArenaOk {
		var none V
		return none, code
	}
	return s.records[h.Slot].Value, ArenaOk
}

func (s *store[V]) set(h Handle, value V) int {
	code := s.codeOf(h)
	if code == ArenaOk {
		s.records[h.Slot].Value = value
	}
	return code
}

func (s *store[V]) drop(h Handle) int {
	if code := s.codeOf(h); code != ArenaOk {
		return code
	}
	s.records[h.Slot] = record[V]{Age: h.Age + 1}
	if s.records[h.Slot].isFree() {
		s.free = append(s.free, h.Slot)
	}
	return ArenaOk
}

func (s store[V]) values() []V {
	var values []V
	for _, r := range s.records {
		if r.Used {
			values = append(values, r.Value)
		}
	}
	return values
}
