package tests

import (
	"slices"

	"loop.example/g00084/impl"
)

func shared(task int) impl.Asked { return impl.Asked{Task: task, Shared: true} }
func alone(task int) impl.Asked  { return impl.Asked{Task: task} }

func asked(l ...impl.Asked) []impl.Asked { return l }

// sameLocks holds the empty list and the nil list for the same.
func sameLocks(a, b []impl.Lock) bool {
	return slices.EqualFunc(a, b, func(x, y impl.Lock) bool {
		return x.Key == y.Key && slices.Equal(x.Held, y.Held) && slices.Equal(x.Queue, y.Queue)
	})
}

func copyLocks(l []impl.Lock) []impl.Lock {
	var c []impl.Lock
	for _, k := range l {
		k.Held = append([]impl.Asked(nil), k.Held...)
		k.Queue = append([]impl.Asked(nil), k.Queue...)
		c = append(c, k)
	}
	return c
}

// fitTogether: two that ask may hold one lock side by side.
func fitTogether(a, b impl.Asked) bool { return a.Shared && b.Shared }

// fitsBeside: a may be held beside all of held.
func fitsBeside(held []impl.Asked, a impl.Asked) bool {
	return !slices.ContainsFunc(held, func(h impl.Asked) bool { return !fitTogether(h, a) })
}

// goodLockByWords is what chapter 2 asks of one lock by itself, told pair by pair.
func goodLockByWords(k impl.Lock) bool {
	if k.Key < 0 || k.Key > 100000 || len(k.Held) == 0 || len(k.Held)+len(k.Queue) > 12 {
		return false
	}
	for i, h := range k.Held {
		for _, g := range k.Held[i+1:] {
			if g.Task <= h.Task || !fitTogether(g, h) {
				return false
			}
		}
	}
	all := slices.Concat(k.Held, k.Queue)
	for i, a := range all {
		if a.Task < 0 || a.Task > 11 {
			return false
		}
		for _, b := range all[i+1:] {
			if a.Task == b.Task {
				return false
			}
		}
	}
	return len(k.Queue) == 0 || !fitsBeside(k.Held, k.Queue[0])
}

func stands(l []impl.Asked, task int) bool {
	return slices.ContainsFunc(l, func(a impl.Asked) bool { return a.Task == task })
}

// goodLocksByWords is what chapter 2 calls good locks, told lock against lock.
func goodLocksByWords(l []impl.Lock) bool {
	if len(l) > 60 || slices.ContainsFunc(l, func(k impl.Lock) bool { return !goodLockByWords(k) }) {
		return false
	}
	for i, k := range l {
		for _, above := range l[i+1:] {
			if above.Key <= k.Key {
				return false
			}
			for _, a := range k.Queue {
				if stands(above.Queue, a.Task) || stands(above.Held, a.Task) {
					return false
				}
			}
		}
	}
	return true
}

func keysByWords(l []impl.Lock, task int) []int {
	var keys []int
	for _, k := range l {
		if stands(k.Held, task) {
			keys = append(keys, k.Key)
		}
	}
	return keys
}

func waitsAtByWords(l []impl.Lock, task int) (int, bool) {
	for _, k := range l {
		if stands(k.Queue, task) {
			return k.Key, true
		}
	}
	return 0, false
}

func waitsForByWords(l []impl.Lock, task int) []int {
	var others []int
	for _, k := range l {
		at := slices.IndexFunc(k.Queue, func(a impl.Asked) bool { return a.Task == task })
		for other := 0; at >= 0 && other < 12; other++ {
			o := slices.IndexFunc(k.Queue, func(a impl.Asked) bool { return a.Task == other })
			if o >= 0 && o < at && !fitTogether(k.Queue[o], k.Queue[at]) {
				others = append(others, other)
			}
			h := slices.IndexFunc(k.Held, func(a impl.Asked) bool { return a.Task == other })
			if h >= 0 && !fitTogether(k.Held[h], k.Queue[at]) {
				others = append(others, other)
			}
		}
	}
	return others
}

// cycleByWords closes WaitsFor over all tasks, task between task.
func cycleByWords(l []impl.Lock) bool {
	var reach [12][12]bool
	for i := range 12 {
		for _, j := range waitsForByWords(l, i) {
			reach[i][j] = true
		}
	}
	for k := range 12 {
		for i := range 12 {
			for j := range 12 {
				reach[i][j] = reach[i][j] || reach[i][k] && reach[k][j]
			}
		}
	}
	for i := range 12 {
		if reach[i][i] {
			return true
		}
	}
	return false
}

func goodTask(task int) bool { return 0 <= task && task <= 11 }

func byTask(a, b impl.Asked) int { return a.Task - b.Task }

func askByWordsOfLocks(l []impl.Lock, task, key int, share bool) ([]impl.Lock, bool, int) {
	at := slices.IndexFunc(l, func(k impl.Lock) bool { return k.Key == key })
	such := goodTask(task) && key >= 0 && key <= 100000
	if !goodLocksByWords(l) || such && at < 0 && len(l) == 60 {
		return nil, false, impl.LockBad
	}
	l = copyLocks(l)
	if !such {
		return l, false, impl.LockTask
	}
	if _, waits := waitsAtByWords(l, task); waits {
		return l, false, impl.LockWaits
	}
	for _, k := range keysByWords(l, task) {
		if k >= key {
			return l, false, impl.LockOrder
		}
	}
	a := impl.Asked{Task: task, Shared: share}
	switch {
	case at < 0:
		l = append(l, impl.Lock{Key: key, Held: asked(a)})
		slices.SortFunc(l, func(x, y impl.Lock) int { return x.Key - y.Key })
		return l, true, impl.LockOk
	case len(l[at].Queue) == 0 && fitsBeside(l[at].Held, a):
		l[at].Held = append(l[at].Held, a)
		slices.SortFunc(l[at].Held, byTask)
		return l, true, impl.LockOk
	}
	l[at].Queue = append(l[at].Queue, a)
	return l, false, impl.LockOk
}

func leaveByWords(l []impl.Lock, task int) ([]impl.Lock, []int, int) {
	if !goodLocksByWords(l) {
		return nil, nil, impl.LockBad
	}
	l = copyLocks(l)
	if !goodTask(task) {
		return l, nil, impl.LockTask
	}
	isTask := func(a impl.Asked) bool { return a.Task == task }
	var in []int
	for i := range l {
		k := &l[i]
		k.Held, k.Queue = slices.DeleteFunc(k.Held, isTask), slices.DeleteFunc(k.Queue, isTask)
		for len(k.Queue) > 0 && fitsBeside(k.Held, k.Queue[0]) {
			in = append(in, k.Queue[0].Task)
			k.Held = append(k.Held, k.Queue[0])
			k.Queue = slices.Delete(k.Queue, 0, 1)
		}
		slices.SortFunc(k.Held, byTask)
	}
	slices.Sort(in)
	return slices.DeleteFunc(l, func(k impl.Lock) bool { return len(k.Held) == 0 }), in, impl.LockOk
}

// lockAnswers is all that the functions of chapter 2 answer to the same locks, task, key and way of asking.
type lockAnswers struct {
	Good      bool
	Ask       []impl.Lock
	Holds     bool
	AskCode   int
	Leave     []impl.Lock
	Entered   []int
	LeaveCode int
	Keys      []int
	KeysTold  bool
	At        int
	Waits     bool
	For       []int
	ForTold   bool
	Cycle     bool
	CycleTold bool
}

func askLocks(l []impl.Lock, task, key int, share bool) lockAnswers {
	var r lockAnswers
	r.Good = impl.GoodLocks(l)
	r.Ask, r.Holds, r.AskCode = impl.AskLock(l, task, key, share)
	r.Leave, r.Entered, r.LeaveCode = impl.LeaveLocks(l, task)
	r.Keys, r.KeysTold = impl.KeysOf(l, task)
	r.At, r.Waits = impl.WaitsAt(l, task)
	r.For, r.ForTold = impl.WaitsFor(l, task)
	r.Cycle, r.CycleTold = impl.CycleIn(l)
	return r
}

func locksByWords(l []impl.Lock, task, key int, share bool) lockAnswers {
	var r lockAnswers
	r.Good = goodLocksByWords(l)
	r.Ask, r.Holds, r.AskCode = askByWordsOfLocks(l, task, key, share)
	r.Leave, r.Entered, r.LeaveCode = leaveByWords(l, task)
	if !r.Good {
		return r
	}
	r.CycleTold, r.Cycle = true, cycleByWords(l)
	if goodTask(task) {
		r.KeysTold, r.Keys = true, keysByWords(l, task)
		r.ForTold, r.For = true, waitsForByWords(l, task)
		r.At, r.Waits = waitsAtByWords(l, task)
	}
	return r
}

func sameLockAnswers(r, w lockAnswers) bool {
	return r.Good == w.Good && r.Holds == w.Holds && r.AskCode == w.AskCode && r.LeaveCode == w.LeaveCode &&
		r.KeysTold == w.KeysTold && r.At == w.At && r.Waits == w.Waits && r.ForTold == w.ForTold &&
		r.Cycle == w.Cycle && r.CycleTold == w.CycleTold &&
		sameLocks(r.Ask, w.Ask) && sameLocks(r.Leave, w.Leave) && slices.Equal(r.Entered, w.Entered) &&
		slices.Equal(r.Keys, w.Keys) && slices.Equal(r.For, w.For)
}
