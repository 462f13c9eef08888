/-
  OWN TEXT: PlainGq, WaitA0.
-/
import Derived.Test.YtdmkpflphjemoaaB32
import Derived.Test.YtdmkpflphjemoaaB24
namespace Go.Proofs.Ytdmkpflphjemoaa
open Go.RowKit

theorem insP_mem {h : List (Int × Bool)} {a t : Int × Bool} : t ∈ insP h a ↔ t = a ∨ t ∈ h := by
  have e : t ∈ h ↔ t ∈ h.take (slotP h a.1) ++ h.drop (slotP h a.1) := by rw [List.take_append_drop]
  unfold insP
  rw [e, List.mem_append, List.mem_cons, List.mem_append]
  constructor
  · rintro (h | h | h)
    · exact .inr (.inl h)
    · exact .inl h
    · exact .inr (.inr h)
  · rintro (h | h | h)
    · exact .inr (.inl h)
    · exact .inl h
    · exact .inr (.inr h)
theorem insP_tk {h : List (Int × Bool)} {a : Int × Bool} {t : Int} : t ∈ tk (insP h a) ↔ t = a.1 ∨ t ∈ tk h := by
  constructor
  · intro ht
    obtain ⟨b, hb, rfl⟩ := List.mem_map.1 ht
    rcases insP_mem.1 hb with rfl | h
    · exact .inl rfl
    · exact .inr (List.mem_map.2 ⟨b, h, rfl⟩)
  · rintro (rfl | ht)
    · exact List.mem_map.2 ⟨a, insP_mem.2 (.inl rfl), rfl⟩
    · obtain ⟨b, hb, rfl⟩ := List.mem_map.1 ht
      exact List.mem_map.2 ⟨b, insP_mem.2 (.inr hb), rfl⟩
theorem insP_up {h : List (Int × Bool)} {a : Int × Bool} (hu : Strict (tk h)) (hn : a.1 ∉ tk h) : Strict (tk (insP h a)) := by
  have e : tk (insP h a) = (tk h).take (slotP h a.1) ++ [a.1] ++ (tk h).drop (slotP h a.1) := by
    unfold insP tk
    rw [List.map_append, List.map_cons, List.map_take, List.map_drop, List.append_assoc]
    rfl
  obtain ⟨s1, s2, s3⟩ := slotP_is h a.1
  have s1' : slotP h a.1 ≤ h.length := s1
  rw [e]
  refine (strict_put (slotP h a.1) hu (fun y hy => ?_) (fun y hy => ?_)).1
  · obtain ⟨j, hj, rfl⟩ := List.getElem_of_mem hy
    have hj1 : j < slotP h a.1 := by rw [List.length_take] at hj; omega
    have hj2 : j < h.length := by omega
    have := s2 j hj1
    rw [(line_T hj2).1] at this
    rw [List.getElem_take, List.getElem_map]
    exact this
  · obtain ⟨j, hj, rfl⟩ := List.getElem_of_mem hy
    have hj2 : slotP h a.1 + j < h.length := by rw [List.length_drop] at hj; simp at hj; omega
    rw [List.getElem_drop, List.getElem_map]
    have hp : slotP h a.1 < h.length := by omega
    have h3 := s3 (show slotP h a.1 < (lineOf h).n from hp)
    rw [(line_T hp).1] at h3
    have h4 : h[slotP h a.1].1 ≠ a.1 := fun e => hn (List.mem_map.2 ⟨_, List.getElem_mem hp, e⟩)
    by_cases e0 : j = 0
    · subst e0; simp only [Nat.add_zero]; omega
    · have h5 := List.pairwise_iff_getElem.1 hu (slotP h a.1) (slotP h a.1 + j) (by simpa using hp) (by simpa using hj2) (by omega)
      simp only [List.getElem_map] at h5
      omega

structure LetOk (h q : List (Int × Bool)) : Prop where
  up : Strict (tk h)
  share : h.length ≤ 1 ∨ ∀ t ∈ h, t.2 = true
  qone : (tk q).Nodup
  apart : ∀ t ∈ tk q, t ∉ tk h
theorem may_share {h : List (Int × Bool)} {a : Int × Bool} (hs : h.length ≤ 1 ∨ ∀ t ∈ h, t.2 = true) (hm : mayP h a.2 = true) : (insP h a).length ≤ 1 ∨ ∀ t ∈ insP h a, t.2 = true := by
  cases h with
  | nil => exact .inl (by rw [insP_length]; simp)
  | cons b r =>
    refine .inr fun t ht => ?_
    have hm' : b.2 = true ∧ a.2 = true := by simpa [mayP] using hm
    rcases insP_mem.1 ht with rfl | h
    · exact hm'.2
    · rcases hs with h1 | h1
      · have : r = [] := by cases r with
          | nil => rfl
          | cons c r => simp at h1
        subst this
        simp only [List.mem_singleton] at h
        rw [h]; exact hm'.1
      · exact h1 t h
theorem letP_good : ∀ (q h : List (Int × Bool)), LetOk h q → LetOk (letP h q).1 (letP h q).2.1 ∧ (∀ b r, (letP h q).2.1 = b :: r → mayP (letP h q).1 b.2 = false) ∧ (∀ t ∈ tk (letP h q).1, t ∈ tk h ∨ t ∈ tk q) ∧ (∀ t ∈ tk (letP h q).2.1, t ∈ tk q) := by
  intro q
  induction q with
  | nil => intro h k; exact ⟨k, fun b r e => by simp [letP] at e, fun t ht => .inl ht, fun t ht => ht⟩
  | cons a q ih =>
    intro h k
    by_cases m : mayP h a.2 = true
    · rw [letP_yes m]
      have hn : a.1 ∉ tk h := k.apart a.1 (by simp)
      have hq : a.1 ∉ tk q ∧ (tk q).Nodup := by have := k.qone; simpa [tk] using this
      obtain ⟨i1, i2, i3, i4⟩ := ih (insP h a) ⟨insP_up k.up hn, may_share k.share m, hq.2, fun t ht h2 => by
        rcases insP_tk.1 h2 with rfl | h3
        · exact hq.1 ht
        · exact k.apart t (by simp only [tk, List.map_cons, List.mem_cons]; exact .inr ht) h3⟩
      refine ⟨i1, i2, fun t ht => ?_, fun t ht => by simp only [tk, List.map_cons, List.mem_cons]; exact .inr (i4 t ht)⟩
      rcases i3 t ht with h1 | h1
      · rcases insP_tk.1 h1 with rfl | h2
        · exact .inr (by simp)
        · exact .inl h2
      · exact .inr (by simp only [tk, List.map_cons, List.mem_cons]; exact .inr h1)
    · have m' : mayP h a.2 = false := by simpa using m
      rw [letP_no m']
      exact ⟨k, fun b r e => by cases e; exact m', fun t ht => .inl ht, fun t ht => ht⟩

/-- Those but x. -/
def butX (x : Int) (l : List (Int × Bool)) : List (Int × Bool) := l.filter (fun t => t.1 != x)
theorem butX_tk {x t : Int} {l : List (Int × Bool)} (h : t ∈ tk (butX x l)) : t ∈ tk l ∧ t ≠ x := by
  obtain ⟨b, hb, rfl⟩ := List.mem_map.1 h
  obtain ⟨h1, h2⟩ := List.mem_filter.1 hb
  exact ⟨List.mem_map.2 ⟨b, h1, rfl⟩, by simpa using h2⟩
def leaveOne (x : Int) (a : LockW) : List LockW := if (letP (butX x a.2.1) (butX x a.2.2)).1.length = 0 then [] else [(a.1, (letP (butX x a.2.1) (butX x a.2.2)).1, (letP (butX x a.2.1) (butX x a.2.2)).2.1)]
theorem leaveTo_flat (K : Nat → Int) (H Q : Nat → Line) (x : Int) : ∀ N, leaveTo K H Q x N = (locksP N K H Q).flatMap (leaveOne x) := by
  intro N
  induction N with
  | zero => rfl
  | succ N ih =>
    have e : locksP (N + 1) K H Q = locksP N K H Q ++ [(K N, asksTo (H N) (H N).n, asksTo (Q N) (Q N).n)] := by unfold locksP; rw [List.range_succ, List.map_append]; rfl
    rw [e, List.flatMap_append, ← ih]
    have e2 : List.flatMap (leaveOne x) [(K N, asksTo (H N) (H N).n, asksTo (Q N) (Q N).n)] = leaveOne x (K N, asksTo (H N) (H N).n, asksTo (Q N) (Q N).n) := by simp [List.flatMap]
    rw [e2]
    by_cases c : (leftOf H Q x N).1.length = 0
    · rw [leaveTo_no c]
      have : leaveOne x (K N, asksTo (H N) (H N).n, asksTo (Q N) (Q N).n) = [] := if_pos c
      rw [this, List.append_nil]
    · rw [leaveTo_yes c]
      have : leaveOne x (K N, asksTo (H N) (H N).n, asksTo (Q N) (Q N).n) = [(K N, (leftOf H Q x N).1, (leftOf H Q x N).2.1)] := if_neg c
      rw [this]
theorem LockP.less {x : Int} {a : LockW} (h : LockP a) : LetOk (butX x a.2.1) (butX x a.2.2) := by
  refine ⟨h.up.sublist (List.filter_sublist.map _), ?_, h.qone.sublist (List.filter_sublist.map _), fun t ht h2 => h.apart t (butX_tk ht).1 (butX_tk h2).1⟩
  rcases h.share with e | e
  · exact .inl (Nat.le_trans (List.length_filter_le _ _) e)
  · exact .inr fun t ht => e t (List.mem_filter.1 ht).1
theorem leaveOne_is {x : Int} {a b : LockW} (h : LockP a) (hb : b ∈ leaveOne x a) : LockP b ∧ b.1 = a.1 ∧ (∀ t ∈ tk b.2.1, (t ∈ tk a.2.1 ∨ t ∈ tk a.2.2) ∧ t ≠ x) ∧ (∀ t ∈ tk b.2.2, t ∈ tk a.2.2 ∧ t ≠ x) := by
  obtain ⟨g1, g2, g3, g4⟩ := letP_good _ _ (h.less (x := x))
  unfold leaveOne at hb
  by_cases c : (letP (butX x a.2.1) (butX x a.2.2)).1.length = 0
  · rw [if_pos c] at hb; cases hb
  · rw [if_neg c] at hb
    simp only [List.mem_singleton] at hb
    subst hb
    have hH : ∀ t ∈ tk (letP (butX x a.2.1) (butX x a.2.2)).1, (t ∈ tk a.2.1 ∨ t ∈ tk a.2.2) ∧ t ≠ x := fun t ht => by
      rcases g3 t ht with h1 | h1
      · exact ⟨.inl (butX_tk h1).1, (butX_tk h1).2⟩
      · exact ⟨.inr (butX_tk h1).1, (butX_tk h1).2⟩
    have hQ : ∀ t ∈ tk (letP (butX x a.2.1) (butX x a.2.2)).2.1, t ∈ tk a.2.2 ∧ t ≠ x := fun t ht => butX_tk (g4 t ht)
    refine ⟨⟨h.key, fun e => c (by show List.length _ = 0; rw [show (letP (butX x a.2.1) (butX x a.2.2)).1 = [] from e]; rfl), g1.up, fun t ht => ?_, g1.share, fun t ht => h.qtask t (hQ t ht).1, g1.qone, g1.apart, g2⟩, rfl, hH, hQ⟩
    rcases (hH t ht).1 with h1 | h1
    · exact h.task t h1
    · exact h.qtask t h1
theorem GoodP.leave {ls : List LockW} (g : GoodP ls) (x : Int) : GoodP (ls.flatMap (leaveOne x)) ∧ ∀ b ∈ ls.flatMap (leaveOne x), x ∉ tk b.2.1 ∧ x ∉ tk b.2.2 := by
  obtain ⟨h60, hl, hp⟩ := g
  refine ⟨⟨?_, fun b hb => ?_, ?_⟩, fun b hb => ?_⟩
  · have : ∀ ls : List LockW, (ls.flatMap (leaveOne x)).length ≤ ls.length := by
      intro ls
      induction ls with
      | nil => simp
      | cons a r ih =>
        rw [List.flatMap_cons, List.length_append, List.length_cons]
        have : (leaveOne x a).length ≤ 1 := by unfold leaveOne; split <;> simp
        omega
    exact Nat.le_trans (this ls) h60
  · obtain ⟨a, ha, hb'⟩ := List.mem_flatMap.1 hb
    exact (leaveOne_is (hl a ha) hb').1
  · refine List.pairwise_flatMap.2 ⟨fun a _ => ?_, ?_⟩
    · unfold leaveOne; split
      · exact List.Pairwise.nil
      · exact List.pairwise_singleton _ _
    · refine hp.imp_of_mem (fun {a b} ha hb hab c hc d hd => ?_)
      obtain ⟨_, e1, e2, e3⟩ := leaveOne_is (hl a ha) hc
      obtain ⟨_, f1, f2, f3⟩ := leaveOne_is (hl b hb) hd
      refine ⟨by rw [e1, f1]; exact hab.1, fun t ht => ?_⟩
      have := hab.2 t (e3 t ht).1
      refine ⟨fun h => ?_, fun h => this.2 (f3 t h).1⟩
      rcases (f2 t h).1 with h1 | h1
      · exact this.1 h1
      · exact this.2 h1
  · obtain ⟨a, ha, hb'⟩ := List.mem_flatMap.1 hb
    obtain ⟨_, _, e2, e3⟩ := leaveOne_is (hl a ha) hb'
    exact ⟨fun h => (e2 x h).2 rfl, fun h => (e3 x h).2 rfl⟩

theorem GoodP.put {l1 l2 : List LockW} {y : LockW} (hn : l1.length + l2.length < 60) (h1 : ∀ a ∈ l1, LockP a) (h2 : ∀ a ∈ l2, LockP a) (p1 : l1.Pairwise Ahead) (p2 : l2.Pairwise Ahead) (p12 : ∀ a ∈ l1, ∀ b ∈ l2, Ahead a b)
    (hy : LockP y) (hy1 : ∀ a ∈ l1, Ahead a y) (hy2 : ∀ b ∈ l2, Ahead y b) : GoodP (l1 ++ y :: l2) := by
  refine ⟨by rw [List.length_append, List.length_cons]; omega, fun a ha => ?_, List.pairwise_append.2 ⟨p1, List.pairwise_cons.2 ⟨hy2, p2⟩, fun a ha b hb => ?_⟩⟩
  · rcases List.mem_append.1 ha with h | h
    · exact h1 a h
    · rcases List.mem_cons.1 h with rfl | h
      · exact hy
      · exact h2 a h
  · rcases List.mem_cons.1 hb with rfl | h
    · exact hy1 a ha
    · exact p12 a ha b h
theorem map_ins {α : Type} {f g : Nat → α} {N p : Nat} {y : α} (hp : p ≤ N) (h1 : ∀ i, i < p → g i = f i) (h2 : g p = y) (h3 : ∀ i, p < i → g i = f (i - 1)) : (List.range (N + 1)).map g = ((List.range N).map f).take p ++ y :: ((List.range N).map f).drop p := by
  have hlt : (((List.range N).map f).take p).length = p := by simp; omega
  apply List.ext_getElem?
  intro j
  rcases Nat.lt_trichotomy j p with h | h | h
  · rw [List.getElem?_append_left (by rw [hlt]; exact h), List.getElem?_take, if_pos h, List.getElem?_map, List.getElem?_map, List.getElem?_range (by omega), List.getElem?_range (by omega)]
    simp only [Option.map_some]
    rw [h1 j h]
  · subst h
    rw [List.getElem?_append_right (by rw [hlt]; exact Nat.le_refl _), hlt, Nat.sub_self, List.getElem?_map, List.getElem?_range (by omega)]
    simp [h2]
  · rw [List.getElem?_append_right (by rw [hlt]; omega), hlt, show j - p = (j - p - 1) + 1 by omega, List.getElem?_cons_succ, List.getElem?_drop, List.getElem?_map, List.getElem?_map, show p + (j - p - 1) = j - 1 by omega]
    by_cases h4 : j < N + 1
    · rw [List.getElem?_range h4, List.getElem?_range (by omega)]
      simp only [Option.map_some]
      rw [h3 j h]
    · rw [List.getElem?_eq_none (by simpa using h4), List.getElem?_eq_none (by simp; omega)]
      rfl
theorem map_setF {α : Type} {f g : Nat → α} {N p : Nat} {y : α} (hp : p < N) (h1 : ∀ i, i ≠ p → g i = f i) (h2 : g p = y) : (List.range N).map g = ((List.range N).map f).take p ++ y :: ((List.range N).map f).drop (p + 1) := by
  have hlt : (((List.range N).map f).take p).length = p := by simp; omega
  apply List.ext_getElem?
  intro j
  rcases Nat.lt_trichotomy j p with h | h | h
  · rw [List.getElem?_append_left (by rw [hlt]; exact h), List.getElem?_take, if_pos h, List.getElem?_map, List.getElem?_map, List.getElem?_range (by omega)]
    simp only [Option.map_some]
    rw [h1 j (by omega)]
  · subst h
    rw [List.getElem?_append_right (by rw [hlt]; exact Nat.le_refl _), hlt, Nat.sub_self, List.getElem?_map, List.getElem?_range (by omega)]
    simp [h2]
  · rw [List.getElem?_append_right (by rw [hlt]; omega), hlt, show j - p = (j - p - 1) + 1 by omega, List.getElem?_cons_succ, List.getElem?_drop, List.getElem?_map, List.getElem?_map, show p + 1 + (j - p - 1) = j by omega]
    by_cases h4 : j < N
    · rw [List.getElem?_range h4]
      simp only [Option.map_some]
      rw [h1 j (by omega)]
    · rw [List.getElem?_eq_none (by simpa using h4)]
      rfl
theorem mem_takeP {N p : Nat} {K : Nat → Int} {H Q : Nat → Line} {a : LockW} (h : a ∈ (locksP N K H Q).take p) : ∃ i, i < p ∧ i < N ∧ a = (K i, asksTo (H i) (H i).n, asksTo (Q i) (Q i).n) := by
  obtain ⟨i, hi, rfl⟩ := List.mem_take_iff_getElem.1 h
  have hl : (locksP N K H Q).length = N := by simp [locksP]
  exact ⟨i, by omega, by omega, by simp [locksP]⟩
theorem mem_dropP {N p : Nat} {K : Nat → Int} {H Q : Nat → Line} {a : LockW} (h : a ∈ (locksP N K H Q).drop p) : ∃ i, p ≤ i ∧ i < N ∧ a = (K i, asksTo (H i) (H i).n, asksTo (Q i) (Q i).n) := by
  obtain ⟨i, hi, rfl⟩ := List.mem_drop_iff_getElem.1 h
  have hl : (locksP N K H Q).length = N := by simp [locksP]
  exact ⟨p + i, by omega, by omega, by simp [locksP]⟩

end Go.Proofs.Ytdmkpflphjemoaa

namespace Go.Proofs.Ytdmkpflphjemoaa
open Go.RowKit

/-- What WaitsAt answers. -/
def WaitAns (P : Prop) (N : Nat) (K : Nat → Int) (Q : Nat → Line) (x : Int) (y : Int) (ok : Bool) : Prop :=
  (∃ i, P ∧ waitsIn N Q x i ∧ y = K i ∧ ok = true) ∨ ((∀ i, ¬ (P ∧ waitsIn N Q x i)) ∧ y = 0 ∧ ok = false)
set_option maxHeartbeats 800000 in
theorem implWaitsAt_any (ao : Option Addr) (N c : Nat) (K : Nat → Int) (H Q : Nat → Line) (x : Int) (w : World) (hN : N ≤ 1048576) (hs : ShortTo N H Q 1048576) (hx : LocksAt w ao N K H Q) :
    Calls Try.prog 7 #[.slice ao N c, .int .i64 x] w fun e w' => (∃ y ok, e = .returned (.tuple #[.int .i64 y, .bool ok]) ∧ Hid (WaitAns (GoodI N K H Q) N K Q x y ok)) ∧ Below w.heap.size w w' := by
  have HS : Hid (ShortTo N H Q 1048576) := hs
  clear hs
  go_enter Try.func7, Try.ntmps7
  go_wp2_with fail
  refine (implLocks_any ao N c K H Q _ HS.out (by omega) hx).mono ?_
  rintro e w1 ⟨⟨v, rfl, hv⟩, hb1⟩
  have HV : Hid (v = true ↔ GoodI N K H Q) := hv
  clear hv
  cases v with
  | false =>
    have HG : Hid (¬ GoodI N K H Q) := fun h => by have := HV.out.2 h; cases this
    go_wp2
    exact bodyPost_ret (v := .tuple #[.int .i64 0, .bool false]) (by simp [results, Try.results7, go_sem]) rfl ⟨⟨0, false, rfl, .inr ⟨fun i h => HG.out h.1, rfl, rfl⟩⟩, hb1⟩
  | true =>
    have HG : Hid (GoodI N K H Q) := HV.out.1 rfl
    clear HV
    go_wp2_with fail
    refine (placeInQueue_any ao N c K H Q x _ hN HS.out (hx.below hb1)).mono ?_
    rintro e w2 ⟨hl, hb2⟩
    have hb3 := after hb1 hb2
    rcases hl with ⟨i, j, hi, _, rfl⟩ | ⟨hno, rfl⟩
    · have HI : Hid (waitsIn N Q x i) := hi
      have hiN : i < N := hi.1
      clear hi
      obtain ⟨b, off, ha, hc, qa, qc, rfl, h1, h2, h3, _, _, _, _⟩ := hx.below hb3 i hiN
      have hi1 : (i : Int) < (N : Int) := by omega
      go_wp2
      exact bodyPost_ret (v := .tuple #[.int .i64 (K i), .bool true]) (by simp [results, Try.results7, go_sem]) rfl ⟨⟨K i, true, rfl, .inl ⟨i, HG.out, HI.out, rfl, rfl⟩⟩, hb3⟩
    · have HN : Hid (noWait N Q x) := hno
      clear hno
      go_wp2
      exact bodyPost_ret (v := .tuple #[.int .i64 0, .bool false]) (by simp [results, Try.results7, go_sem]) rfl ⟨⟨0, false, rfl, .inr ⟨fun i h => noWait_not HN.out h.2, rfl, rfl⟩⟩, hb3⟩

end Go.Proofs.Ytdmkpflphjemoaa
