/-
  OWN TEXT: DrawLl, PlainGp.
-/
import Derived.Test.YtdmkpflphjemoaaB31
import Derived.Test.YtdmkpflphjemoaaB25
namespace Go.Proofs.Ytdmkpflphjemoaa
open Go.RowKit

theorem KEnd.on {w u u' : World} {cb n c a a' : Nat} {ao : Option Addr} {v : Value} (h : KEnd w u cb ao n c a v) (hc : CurIs u' cb ao n c a') (hk : Kept u u' (fun b => b = cb)) : KEnd w u' cb ao n c a' v := ⟨hc, h.kept.trans hk, h.reads.kept hk⟩
theorem KEnd.below {w u u' : World} {cb n c a : Nat} {ao : Option Addr} {v : Value} (h : KEnd w u cb ao n c a v) (hb : Below u.heap.size u u') : KEnd w u' cb ao n c a v := h.on (h.cur.below hb) (Kept.of_below hb)

set_option maxHeartbeats 1600000 in
set_option maxRecDepth 100000 in
theorem taskOf_any (cb : Nat) (ao : Option Addr) (n c a : Nat) (w : World) (ha : a ≤ 800000000000000000) (h : CurIs w cb ao n c a) :
    Calls Try.prog 19 #[.pointer (some ⟨cb, 0, none⟩)] w fun e w' => (∃ x : Int, e = .returned (.int .i64 x)) ∧ CurIs w' cb ao n c (a + 4) ∧ Kept w w' (fun b => b = cb) := by
  go_enter Try.func19, Try.ntmps19
  go_wp2_with fail
  refine (one_any cb ao n c a 20 _ (by omega) (by omega) (by omega) h).mono ?_
  rintro e w1 ⟨⟨b, rfl⟩, hc1, hk1⟩
  cases b with
  | true =>
    have hc2 := hc1.below (push (Below.refl _ w1) (.cells #[.int .i64 (-1), .int .i64 11, .int .i64 12] 3))
    have HBL := heap_alloc_new w1 (.cells #[.int .i64 (-1), .int .i64 11, .int .i64 12] 3)
    have hyl : cb < w1.heap.size := hc1.lt
    have hk2 : Kept w1 (w1.alloc (.cells #[.int .i64 (-1), .int .i64 11, .int .i64 12] 3)) (fun b => b = cb) := Kept.of_below (push (Below.refl _ w1) _)
    go_wp2_with fail
    generalize w1.alloc (.cells #[.int .i64 (-1), .int .i64 11, .int .i64 12] 3) = w2 at hc2 HBL hk2 ⊢
    generalize w1.heap.size = bl at HBL hyl ⊢
    refine (amongL cb ao n c (a + 2) 3 [-1, 11, 12] w2 rfl (by omega) (by omega) (by omega) hc2 bl HBL (by omega)).mono ?_
    rintro e w3 ⟨⟨q, rfl⟩, hc3, hk3⟩
    go_wp2
    go_ret
    exact ⟨⟨q, rfl⟩, hc3.more (by omega), (hk1.trans hk2).trans hk3⟩
  | false =>
    go_wp2_with fail
    refine (pick_any cb ao n c (a + 2) 6 _ (by omega) (by omega) (by omega) hc1).mono ?_
    rintro e w3 ⟨⟨q, rfl, _⟩, hc3, hk3⟩
    go_wp2
    go_ret
    exact ⟨⟨q, rfl⟩, hc3.more (by omega), hk1.trans hk3⟩

/-- The cursor that is made writes nothing that was there. -/
theorem kept_under {w v1 u : World} (hb : Below w.heap.size w v1) (h : Kept v1 u (fun b => b = w.heap.size)) : Below w.heap.size w u := Kept.below hb hb.size h (fun b e => by have e : b = w.heap.size := e; omega)

set_option maxHeartbeats 1600000 in
set_option maxRecDepth 100000 in
theorem drawLeave_any (ao : Option Addr) (n c : Nat) (w : World) (h : BytesAt w ao n) :
    Calls Try.prog 11 #[.slice ao n c] w fun e w' => (∃ v x, e = .returned (.tuple #[v, .int .i64 x]) ∧ LocksR w' w.heap.size v) ∧ Below w.heap.size w w' := by
  have hc0 := cur_new (c := c) h
  have hs0 : (w.alloc (.cells #[.slice ao n c, .int .i64 0, .int .u64 0] 45)).heap.size = w.heap.size + 1 := by simp
  have hb0 : Below w.heap.size w (w.alloc (.cells #[.slice ao n c, .int .i64 0, .int .u64 0] 45)) := push (Below.refl _ _) _
  go_enter Try.func11, Try.ntmps11
  go_wp2_with fail
  generalize w.alloc (.cells #[.slice ao n c, .int .i64 0, .int .u64 0] 45) = v1 at hc0 hs0 hb0 ⊢
  have hcb : w.heap.size < v1.heap.size := by omega
  refine (locks_any w.heap.size ao n c 0 v1 (by omega) hcb hc0).mono ?_
  rintro e v2 ⟨v, rfl, H2⟩
  go_wp2_with fail
  refine (taskOf_any w.heap.size ao n c (0 + 1000) v2 (by omega) H2.cur).mono ?_
  rintro e v3 ⟨⟨x, rfl⟩, hc3, hk3⟩
  have H3 := H2.on hc3 hk3
  obtain ⟨bv, Nv, dv, _, _, _, e9, _⟩ := H3.reads
  subst e9
  go_wp2
  exact bodyPost_ret (v := .tuple #[.slice bv Nv dv, .int .i64 x]) (by simp [results, Try.results11, go_sem]) rfl ⟨⟨_, x, rfl, H3.reads⟩, kept_under hb0 H3.kept⟩

set_option maxHeartbeats 3200000 in
set_option maxRecDepth 100000 in
theorem drawAsk_any (ao : Option Addr) (n c : Nat) (w : World) (h : BytesAt w ao n) :
    Calls Try.prog 4 #[.slice ao n c] w fun e w' => (∃ v x key s, e = .returned (.tuple #[v, .int .i64 x, .int .i64 key, .bool s]) ∧ LocksR w' w.heap.size v) ∧ Below w.heap.size w w' := by
  have hc0 := cur_new (c := c) h
  have hs0 : (w.alloc (.cells #[.slice ao n c, .int .i64 0, .int .u64 0] 45)).heap.size = w.heap.size + 1 := by simp
  have hb0 : Below w.heap.size w (w.alloc (.cells #[.slice ao n c, .int .i64 0, .int .u64 0] 45)) := push (Below.refl _ _) _
  go_enter Try.func4, Try.ntmps4
  go_wp2_with fail
  generalize w.alloc (.cells #[.slice ao n c, .int .i64 0, .int .u64 0] 45) = v1 at hc0 hs0 hb0 ⊢
  have hcb : w.heap.size < v1.heap.size := by omega
  refine (locks_any w.heap.size ao n c 0 v1 (by omega) hcb hc0).mono ?_
  rintro e v2 ⟨v, rfl, H2⟩
  obtain ⟨bv, Nv, dv, _, _, _, e9, _⟩ := H2.reads
  subst e9
  have HK2 : Hid (KEnd v1 v2 w.heap.size ao n c (0 + 1000) (.slice bv Nv dv)) := H2
  clear H2
  go_wp2_with fail
  refine (pick_any w.heap.size ao n c (0 + 1000) 8 v2 (by omega) (by omega) (by omega) HK2.out.cur).mono ?_
  rintro e v3 ⟨⟨k, rfl, _⟩, hc3, hk3⟩
  have HK3 : Hid (KEnd v1 v3 w.heap.size ao n c (0 + 1000 + 2) (.slice bv Nv dv)) := HK2.out.on hc3 hk3
  clear HK2 hc3 hk3
  go_wp2_with fail
  refine (one_any w.heap.size ao n c (0 + 1000 + 2) 20 v3 (by omega) (by omega) (by omega) HK3.out.cur).mono ?_
  rintro e v4 ⟨⟨b, rfl⟩, hc4, hk4⟩
  have HK4 : Hid (KEnd v1 v4 w.heap.size ao n c (0 + 1000 + 2 + 2) (.slice bv Nv dv)) := HK3.out.on hc4 hk4
  clear HK3 hc4 hk4
  go_upto_if 17 with fail
  go_cut [8] (fun k8 wx => ∃ key : Int, k8 = .int .i64 key ∧ Hid (KEnd v1 wx w.heap.size ao n c (0 + 1000 + 2 + 2 + 2) (.slice bv Nv dv)))
  case first =>
    cases b with
    | false =>
      go_wp2
      go_meet
      exact ⟨k, rfl, HK4.out.more (by omega)⟩
    | true =>
      have HKA : Hid (KEnd v1 (v4.alloc (.cells #[.int .i64 (-1), .int .i64 100000, .int .i64 100001] 3)) w.heap.size ao n c (0 + 1000 + 2 + 2) (.slice bv Nv dv)) := HK4.out.below (push (Below.refl _ _) _)
      have HBL := heap_alloc_new v4 (.cells #[.int .i64 (-1), .int .i64 100000, .int .i64 100001] 3)
      have hyl : w.heap.size < v4.heap.size := HK4.out.cur.lt
      go_wp2_with fail
      generalize v4.alloc (.cells #[.int .i64 (-1), .int .i64 100000, .int .i64 100001] 3) = v5 at HKA HBL ⊢
      generalize v4.heap.size = bl at HBL hyl ⊢
      refine (amongL w.heap.size ao n c (0 + 1000 + 2 + 2) 3 [-1, 100000, 100001] v5 rfl (by omega) (by omega) (by omega) HKA.out.cur bl HBL (by omega)).mono ?_
      rintro e v6 ⟨⟨q, rfl⟩, hc6, hk6⟩
      have HK6 : Hid (KEnd v1 v6 w.heap.size ao n c (0 + 1000 + 2 + 2 + 2) (.slice bv Nv dv)) := HKA.out.on hc6 hk6
      go_wp2
      go_meet
      exact ⟨q, rfl, HK6⟩
  case rest =>
    obtain ⟨key, rfl, HK5⟩ := hcut
    clear HK4
    go_wp2_with fail
    refine (taskOf_any w.heap.size ao n c (0 + 1000 + 2 + 2 + 2) _ (by omega) HK5.out.cur).mono ?_
    rintro e v7 ⟨⟨x, rfl⟩, hc7, hk7⟩
    have HK7 : Hid (KEnd v1 v7 w.heap.size ao n c (0 + 1000 + 2 + 2 + 2 + 4) (.slice bv Nv dv)) := HK5.out.on hc7 hk7
    clear HK5 hc7 hk7
    go_wp2_with fail
    refine (one_any w.heap.size ao n c (0 + 1000 + 2 + 2 + 2 + 4) 2 _ (by omega) (by omega) (by omega) HK7.out.cur).mono ?_
    rintro e v8 ⟨⟨s, rfl⟩, hc8, hk8⟩
    have HK8 : Hid (KEnd v1 v8 w.heap.size ao n c (0 + 1000 + 2 + 2 + 2 + 4 + 2) (.slice bv Nv dv)) := HK7.out.on hc8 hk8
    clear HK7 hc8 hk8
    go_wp2
    exact bodyPost_ret (v := .tuple #[.slice bv Nv dv, .int .i64 x, .int .i64 key, .bool s]) (by simp [results, Try.results4, go_sem]) rfl ⟨⟨_, x, key, s, rfl, HK8.out.reads⟩, kept_under hb0 HK8.out.kept⟩

end Go.Proofs.Ytdmkpflphjemoaa

namespace Go.Proofs.Ytdmkpflphjemoaa
open Go.RowKit

/-- The tasks of some that ask. -/
abbrev tk (l : List (Int × Bool)) : List Int := l.map (·.1)
structure LockP (a : LockW) : Prop where
  key : 0 ≤ a.1 ∧ a.1 ≤ 100000
  some : a.2.1 ≠ []
  up : Strict (tk a.2.1)
  task : ∀ t ∈ tk a.2.1, isTask t
  share : a.2.1.length ≤ 1 ∨ ∀ t ∈ a.2.1, t.2 = true
  qtask : ∀ t ∈ tk a.2.2, isTask t
  qone : (tk a.2.2).Nodup
  apart : ∀ t ∈ tk a.2.2, t ∉ tk a.2.1
  bars : ∀ b q, a.2.2 = b :: q → mayP a.2.1 b.2 = false
/-- Lock a stands ahead of lock b. -/
def Ahead (a b : LockW) : Prop := a.1 < b.1 ∧ ∀ t ∈ tk a.2.2, t ∉ tk b.2.1 ∧ t ∉ tk b.2.2
def GoodP (ls : List LockW) : Prop := ls.length ≤ 60 ∧ (∀ a ∈ ls, LockP a) ∧ ls.Pairwise Ahead

theorem inLine_of (l : List (Int × Bool)) (x : Int) : inLine (lineOf l) x ↔ x ∈ tk l := by
  constructor
  · rintro ⟨k, hk, e⟩
    have hk' : k < l.length := hk
    have e2 : (l.getD k (0, false)).1 = x := e
    rw [List.getD_eq_getElem?_getD, List.getElem?_eq_getElem hk'] at e2
    exact List.mem_map.2 ⟨l[k], List.getElem_mem hk', e2⟩
  · intro h
    obtain ⟨a, ha, e⟩ := List.mem_map.1 h
    obtain ⟨k, hk, ek⟩ := List.getElem_of_mem ha
    refine ⟨k, hk, ?_⟩
    show (l.getD k (0, false)).1 = x
    rw [List.getD_eq_getElem?_getD, List.getElem?_eq_getElem hk, Option.getD_some, ek]
    exact e
theorem ls_get {ls : List LockW} {i : Nat} (h : i < ls.length) : ls.getD i (0, [], []) = ls[i] := by
  rw [List.getD_eq_getElem?_getD, List.getElem?_eq_getElem h]; rfl
theorem line_T {l : List (Int × Bool)} {k : Nat} (h : k < l.length) : (lineOf l).T k = l[k].1 ∧ (lineOf l).S k = l[k].2 := by
  refine ⟨?_, ?_⟩
  · show (l.getD k (0, false)).1 = _
    rw [List.getD_eq_getElem?_getD, List.getElem?_eq_getElem h]; rfl
  · show (l.getD k (0, false)).2 = _
    rw [List.getD_eq_getElem?_getD, List.getElem?_eq_getElem h]; rfl
theorem tasks_of (l : List (Int × Bool)) (k : Nat) (h : k ≤ l.length) : tasks (lineOf l) k = tk (l.take k) := by
  have e : tasks (lineOf l) k = tk (asksTo (lineOf l) k) := by unfold tasks asksTo tk; rw [List.map_map]; rfl
  rw [e, asksTo_lineOf l k h]
theorem GoodP.good {ls : List LockW} (g : GoodP ls) : GoodI ls.length (keyF ls) (heldF ls) (queueF ls) := by
  obtain ⟨h60, hl, hp⟩ := g
  have hp' := List.pairwise_iff_getElem.1 hp
  refine ⟨h60, fun i hi => ?_, fun i hi => ?_⟩
  · have a := hl ls[i] (List.getElem_mem hi)
    refine ⟨⟨?_, ?_, fun h0 => ?_⟩, ⟨?_, fun k hk => ?_⟩, fun j hj => ?_, fun h0 => ?_⟩
    · unfold keyF; rw [ls_get hi]; exact a.key.1
    · unfold keyF; rw [ls_get hi]; exact a.key.2
    · unfold keyF
      rw [ls_get hi, ls_get (show i - 1 < ls.length by omega)]
      exact (hp' (i - 1) i (by omega) hi (by omega)).1
    · unfold heldF
      rw [ls_get hi]
      exact List.length_pos_iff.2 a.some
    · unfold heldF at hk ⊢
      rw [ls_get hi] at hk ⊢
      have hk' : k < ls[i].2.1.length := hk
      refine ⟨?_, fun h0 => ?_, ?_⟩
      · rw [(line_T hk').1]; exact a.task _ (List.mem_map.2 ⟨_, List.getElem_mem hk', rfl⟩)
      · rw [(line_T hk').1, (line_T (show k - 1 < ls[i].2.1.length by omega)).1]
        have h := List.pairwise_iff_getElem.1 a.up (k - 1) k (by simp; omega) (by simpa using hk') (by omega)
        simpa using h
      · rcases a.share with h | h
        · exact .inr h
        · rw [(line_T hk').2]; exact .inl (h _ (List.getElem_mem hk'))
    · unfold queueF at hj ⊢
      unfold heldF
      rw [ls_get hi] at hj ⊢
      have hj' : j < ls[i].2.2.length := hj
      rw [(line_T hj').1, inLine_of]
      exact ⟨a.qtask _ (List.mem_map.2 ⟨_, List.getElem_mem hj', rfl⟩), a.apart _ (List.mem_map.2 ⟨_, List.getElem_mem hj', rfl⟩)⟩
    · unfold queueF at h0 ⊢
      unfold heldF
      rw [ls_get hi] at h0 ⊢
      have h0' : 0 < ls[i].2.2.length := h0
      rw [(line_T h0').2, mayB_lineOf]
      obtain ⟨b, q, e⟩ := List.exists_cons_of_length_pos h0'
      have hb := a.bars b q e
      have e0 : ls[i].2.2[0] = b := by simp only [e]; rfl
      rw [e0]; exact hb
  · have a := hl ls[i] (List.getElem_mem hi)
    have far : ∀ i', i' < i → ∀ x, inLine (queueF ls i') x → x ∉ tk ls[i].2.1 ∧ x ∉ tk ls[i].2.2 := fun i' hi' x hx => by
      unfold queueF at hx
      rw [ls_get (show i' < ls.length by omega), inLine_of] at hx
      exact (hp' i' i (by omega) hi hi').2 x hx
    refine ⟨fun k hk hm => ?_, fun j hj hm => ?_⟩
    · obtain ⟨i', hi', hx⟩ := (mem_waited _ _ _).1 hm
      refine (far i' hi' _ hx).1 ?_
      unfold heldF at hk ⊢
      rw [ls_get hi] at hk ⊢
      have hk' : k < ls[i].2.1.length := hk
      rw [(line_T hk').1]
      exact List.mem_map.2 ⟨_, List.getElem_mem hk', rfl⟩
    · have hj0 := hj
      unfold queueF at hj
      rw [ls_get hi] at hj
      have hj' : j < ls[i].2.2.length := hj
      have eT : (queueF ls i).T j = ls[i].2.2[j].1 := by unfold queueF; rw [ls_get hi]; exact (line_T hj').1
      have eL : tasks (queueF ls i) j = tk (ls[i].2.2.take j) := by unfold queueF; rw [ls_get hi]; exact tasks_of _ _ (Nat.le_of_lt hj')
      rw [eT, eL] at hm
      rcases List.mem_append.1 hm with h | h
      · obtain ⟨i', hi', hx⟩ := (mem_waited _ _ _).1 h
        exact (far i' hi' _ hx).2 (List.mem_map.2 ⟨_, List.getElem_mem hj', rfl⟩)
      · obtain ⟨b, hb, eb⟩ := List.mem_map.1 h
        obtain ⟨k, hk, ek⟩ := List.getElem_of_mem hb
        have hk2 : k < j := by have := hk; rw [List.length_take] at this; omega
        have h2 := List.pairwise_iff_getElem.1 a.qone k j (by simp; omega) (by simpa using hj') hk2
        refine h2 ?_
        rw [List.getElem_take] at ek
        simp only [List.getElem_map]
        rw [ek]; exact eb

theorem tk_asks (l : Line) (k : Nat) : tk (asksTo l k) = tasks l k := by unfold tasks asksTo tk; rw [List.map_map]; rfl
theorem mem_tk_asks (l : Line) (x : Int) : x ∈ tk (asksTo l l.n) ↔ inLine l x := by rw [tk_asks, mem_tasks]; rfl
theorem GoodP.of {N : Nat} {K : Nat → Int} {H Q : Nat → Line} (g : GoodI N K H Q) : GoodP (locksP N K H Q) := by
  obtain ⟨h60, hl, ho⟩ := g
  have hKu : ∀ i j, i < j → j < N → K i < K j := by
    intro i j hij
    induction j with
    | zero => omega
    | succ j ih =>
      intro hj
      have h1 : K j < K (j + 1) := (hl (j + 1) hj).1.2.2 (by omega)
      by_cases e : i = j
      · subst e; exact h1
      · have := ih (by omega) (by omega); omega
  refine ⟨by simpa [locksP] using h60, fun a ha => ?_, ?_⟩
  · obtain ⟨i, hi, rfl⟩ := List.mem_map.1 ha
    have hi' : i < N := by simpa using hi
    obtain ⟨k1, ⟨k2, k3⟩, k4, k5⟩ := hl i hi'
    refine ⟨⟨k1.1, k1.2.1⟩, ?_, ?_, ?_, ?_, ?_, ?_, ?_, ?_⟩
    · intro e
      have : (asksTo (H i) (H i).n).length = 0 := by rw [show asksTo (H i) (H i).n = [] from e]; rfl
      rw [asksTo_length] at this
      omega
    · show Strict (tk (asksTo (H i) (H i).n))
      rw [tk_asks]
      refine List.pairwise_map.2 (List.Pairwise.imp_of_mem (fun {a b} ha hb hab => ?_) List.pairwise_lt_range)
      exact line_rise (fun k hk h0 => (k3 k hk).2.1 h0) b hab (by simpa using hb)
    · intro t ht
      obtain ⟨k, hk, rfl⟩ := (mem_tk_asks _ _).1 ht
      exact (k3 k hk).1
    · by_cases e : (H i).n ≤ 1
      · exact .inl (by show (asksTo (H i) (H i).n).length ≤ 1; rw [asksTo_length]; exact e)
      · refine .inr fun t ht => ?_
        obtain ⟨k, hk, rfl⟩ := List.mem_map.1 ht
        rcases (k3 k (by simpa using hk)).2.2 with h | h
        · exact h
        · exact absurd h e
    · intro t ht
      obtain ⟨k, hk, rfl⟩ := (mem_tk_asks _ _).1 ht
      exact (k4 k hk).1
    · show (tk (asksTo (Q i) (Q i).n)).Nodup
      rw [tk_asks]
      have := tasks_nodup (Q i) [] List.nodup_nil (Q i).n (fun j hj hm => (ho i hi').2 j hj (List.mem_append.2 (.inr (by simpa using hm))))
      simpa using this
    · intro t ht h2
      obtain ⟨k, hk, rfl⟩ := (mem_tk_asks _ _).1 ht
      exact (k4 k hk).2 ((mem_tk_asks _ _).1 h2)
    · intro b q e
      have e' : asksTo (Q i) (Q i).n = b :: q := e
      have hn : 0 < (Q i).n := by have := congrArg List.length e'; rw [asksTo_length] at this; simp at this; omega
      have h := k5 hn
      have eb : b = ((Q i).T 0, (Q i).S 0) := by
        have h0 : (asksTo (Q i) (Q i).n)[0]? = some b := by rw [e']; rfl
        unfold asksTo at h0
        rw [List.getElem?_map, List.getElem?_range hn] at h0
        simpa using h0.symm
      rw [eb]
      show mayP (asksTo (H i) (H i).n) ((Q i).S 0) = false
      rw [← mayB_lineOf]
      unfold mayB at h ⊢
      have hn2 : (lineOf (asksTo (H i) (H i).n)).n = (H i).n := asksTo_length _ _
      rw [hn2]
      have hs : (lineOf (asksTo (H i) (H i).n)).S 0 = (H i).S 0 := by
        rw [(line_T (show 0 < (asksTo (H i) (H i).n).length by rw [asksTo_length]; exact k2)).2]
        simp [asksTo]
      rw [hs]; exact h
  · refine List.pairwise_map.2 (List.Pairwise.imp_of_mem (fun {a b} ha hb hab => ?_) List.pairwise_lt_range)
    have hb' : b < N := by simpa using hb
    refine ⟨hKu a b hab hb', fun t ht => ?_⟩
    have hw : t ∈ waited Q b := (mem_waited Q b t).2 ⟨a, hab, (mem_tk_asks _ _).1 ht⟩
    refine ⟨fun h => ?_, fun h => ?_⟩
    · obtain ⟨k, hk, rfl⟩ := (mem_tk_asks _ _).1 h
      exact (ho b hb').1 k hk hw
    · obtain ⟨k, hk, rfl⟩ := (mem_tk_asks _ _).1 h
      exact (ho b hb').2 k hk (List.mem_append.2 (.inl hw))

end Go.Proofs.Ytdmkpflphjemoaa
