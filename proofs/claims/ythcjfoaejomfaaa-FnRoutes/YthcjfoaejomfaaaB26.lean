/-
  OWN TEXT: EarlyI, PlainRt.
-/
import Derived.Test.YthcjfoaejomfaaaB21
import Derived.Test.YthcjfoaejomfaaaB25
namespace Go.Proofs.Ythcjfoaejomfaaa
open Go.RowKit

theorem sails_at {w : World} {b off N : Nat} {S : Nat → Sail} (h : SailsAt w (some ⟨b, off, none⟩) N S) : ∃ la ca lc cc, SailsIn w b off N S la ca lc cc := by
  by_cases h0 : N = 0
  · subst h0
    exact ⟨fun _ => none, fun _ => none, fun _ => 0, fun _ => 0, fun k hk => absurd hk (Nat.not_lt_zero _)⟩
  · obtain ⟨b', off', la, ca, lc, cc, e, _, hi⟩ := sails_in h (by omega)
    simp only [Option.some.injEq, Addr.mk.injEq, and_true] at e
    obtain ⟨rfl, rfl⟩ := e
    exact ⟨la, ca, lc, cc, hi⟩

/-- What the question is about is as said. -/
def AskOk (N : Nat) (S : Nat → Sail) (fr tt : ByteArray) (t0 : Int) : Prop := GoodTab N S ∧ Unlike fr tt ∧ In t0 0 10000
/-- a is the answer: the best way, or none. -/
def AnsIs (N : Nat) (S : Nat → Sail) (fr tt : ByteArray) (t0 : Int) : Option (List Nat) → Prop
  | some p => AskOk N S fr tt t0 ∧ Best N S fr t0 tt p
  | none => ¬ AskOk N S fr tt t0 ∨ ∀ q, ¬ Goal N S fr t0 tt q
theorem ans_one {N : Nat} {S : Nat → Sail} {fr tt : ByteArray} {t0 : Int} {a b : Option (List Nat)} (ha : AnsIs N S fr tt t0 a) (hb : AnsIs N S fr tt t0 b) : a = b := by
  cases a with
  | none =>
    cases b with
    | none => rfl
    | some q =>
      rcases ha with h | h
      · exact absurd hb.1 h
      · exact absurd hb.2.1 (h q)
  | some p =>
    cases b with
    | none =>
      rcases hb with h | h
      · exact absurd ha.1 h
      · exact absurd ha.2.1 (h p)
    | some q => rw [best_unique ha.2 hb.2]
/-- What EarliestRoute answers. -/
def RouteOut (e : Ending) (w w' : World) (N : Nat) (S : Nat → Sail) (fr tt : ByteArray) (t0 : Int) : Prop :=
  ∃ (a : Option (List Nat)) (ao : Option Addr) (c : Nat), AnsIs N S fr tt t0 a ∧ e = .returned (.tuple #[.slice ao (a.getD []).length c, .bool a.isSome]) ∧ w'.ownsRow w.heap.size 3 1 (.slice ao (a.getD []).length c) (a.getD []).length (cellsI (ids S (a.getD []))) ∧ Below w.heap.size w w'

set_option maxHeartbeats 1600000 in
set_option maxRecDepth 100000 in
theorem implRoute_any (b off N c : Nat) (S : Nat → Sail) (fr tt : ByteArray) (t0 : Int) (w : World) (hN : N ≤ 1048576) (hs : ShortAll N S 1048576) (hfr : fr.size ≤ 1000000000000000) (htt : tt.size ≤ 1000000000000000) (hx : SailsAt w (some ⟨b, off, none⟩) N S) :
    Calls Try.prog 5 #[.slice (some ⟨b, off, none⟩) N c, .string fr, .string tt, .int .i64 t0] w fun e w' => RouteOut e w w' N S fr tt t0 := by
  go_enter Try.func5, Try.ntmps5
  go_wp2_with fail
  refine (implTab_any _ N c S _ hN hs hx).mono ?_
  rintro e w1 ⟨⟨b1, rfl, hi1⟩, hb1⟩
  cases b1 with
  | false =>
    have HN : Hid (¬ GoodTab N S) := fun h => by have := hi1.2 h; cases this
    clear hi1
    go_wp2
    exact bodyPost_ret (v := .tuple #[.slice none 0 0, .bool false]) (by simp [results, Try.results5, go_sem]) rfl ⟨none, none, 0, .inl (fun h => HN.out h.1), rfl, World.ownsRow_nil _ _ _ _, hb1⟩
  | true =>
    have HT : Hid (GoodTab N S) := hi1.1 rfl
    clear hi1
    by_cases hu : Unlike fr tt
    case neg =>
      have du : decide (Unlike fr tt) = false := decide_eq_false hu
      have HN : Hid (¬ Unlike fr tt) := hu
      clear hu
      go_wp2_with (first | (go_at_call 16; refine (unlikeNames_is _ _ _ hfr htt).mono ?_; rintro e w' ⟨rfl, hw'⟩; have hw' := hw'.symm; subst hw'))
      exact bodyPost_ret (v := .tuple #[.slice none 0 0, .bool false]) (by simp [results, Try.results5, go_sem]) rfl ⟨none, none, 0, .inl (fun h => HN.out h.2.1), rfl, World.ownsRow_nil _ _ _ _, hb1⟩
    have du : decide (Unlike fr tt) = true := decide_eq_true hu
    have HU : Hid (Unlike fr tt) := hu
    clear hu
    by_cases ht : In t0 0 10000
    case neg =>
      have dt : decide (In t0 0 10000) = false := decide_eq_false ht
      have HN : Hid (¬ In t0 0 10000) := ht
      clear ht
      go_wp2_with (first | (go_at_call 16; refine (unlikeNames_is _ _ _ hfr htt).mono ?_; rintro e w' ⟨rfl, hw'⟩; have hw' := hw'.symm; subst hw') | (go_at_call 17; refine (within_is _ _ _ _).mono ?_; rintro e w' ⟨rfl, hw'⟩; have hw' := hw'.symm; subst hw'))
      exact bodyPost_ret (v := .tuple #[.slice none 0 0, .bool false]) (by simp [results, Try.results5, go_sem]) rfl ⟨none, none, 0, .inl (fun h => HN.out h.2.2), rfl, World.ownsRow_nil _ _ _ _, hb1⟩
    have dt : decide (In t0 0 10000) = true := decide_eq_true ht
    have HI : Hid (In t0 0 10000) := ht
    clear ht
    go_wp2_with (first | (go_at_call 16; refine (unlikeNames_is _ _ _ hfr htt).mono ?_; rintro e w' ⟨rfl, hw'⟩; have hw' := hw'.symm; subst hw') | (go_at_call 17; refine (within_is _ _ _ _).mono ?_; rintro e w' ⟨rfl, hw'⟩; have hw' := hw'.symm; subst hw'))
    obtain ⟨la, ca, lc, cc, hin⟩ := sails_at (hx.below hb1)
    refine Calls.mono (first_any b off N c S la ca lc cc fr tt t0 _ HT.out.1 hin (rising_of HT.out) (fun k hk => by have := (HT.out.2 k hk).1; exact ⟨this.2.2.2.2.1, this.2.2.2.2.2.1, this.2.2.2.2.2.2.1⟩) HI.out.1 HI.out.2) ?_
    rintro e w2 ⟨hr, hb2⟩
    rcases hr with ⟨p, ao, cp, hbest, rfl, hown⟩ | ⟨hno, rfl⟩
    · have HB : Hid (Best N S fr t0 tt p) := hbest
      have HO : Hid (w2.ownsRow w.heap.size 3 1 (.slice ao p.length cp) p.length (cellsI (ids S p))) := own_base hown hb1.size
      clear hbest hown
      go_wp2
      exact bodyPost_ret (v := .tuple #[.slice ao p.length cp, .bool true]) (by simp [results, Try.results5, go_sem]) rfl ⟨some p, ao, cp, ⟨⟨HT.out, HU.out, HI.out⟩, HB.out⟩, rfl, HO.out, after hb1 hb2⟩
    · have HNO : Hid (∀ q, ¬ Goal N S fr t0 tt q) := hno
      clear hno
      go_wp2
      exact bodyPost_ret (v := .tuple #[.slice none 0 0, .bool false]) (by simp [results, Try.results5, go_sem]) rfl ⟨none, none, 0, .inr HNO.out, rfl, World.ownsRow_nil _ _ _ _, after hb1 hb2⟩

end Go.Proofs.Ythcjfoaejomfaaa

namespace Go.Proofs.Ythcjfoaejomfaaa
open Go.RowKit

section
variable {N : Nat} {S : Nat → Sail} {fr tt : ByteArray} {t0 : Int}
theorem tab_same (h : GoodTab N S) {i j : Nat} (hi : i < N) (hj : j < N) (e : (S i).id = (S j).id) : i = j := by
  have hr := rising_of h
  by_cases c : i < j
  · have := hr i j c hj; omega
  · by_cases d : j < i
    · have := hr j i d hi; omega
    · omega
theorem find_self (h : GoodTab N S) {k : Nat} (hk : k < N) : findIx S (S k).id N = k :=
  findIx_is hk rfl (fun j hj e => by have := tab_same h (by omega) hk e; omega)
/-- When it comes; behind all times where there is none. -/
def lateOf (S : Nat → Sail) (t0 : Int) : Option (List Nat) → Int
  | some p => timeOf S t0 p
  | none => 1099511627776
theorem place_nil : placeOf S fr [] = fr := rfl
theorem time_nil : timeOf S t0 [] = t0 := rfl
theorem ask_of (hG : GoodTab N S) (hne : fr ≠ tt) (ht : In t0 0 10000) {k j : Nat} (hk : k < N) (hj : j < N) (hf : (S k).fr = fr) (hd : (S j).dst = tt) : AskOk N S fr tt t0 := by
  have g1 := (hG.2 k hk).1
  have g2 := (hG.2 j hj).1
  unfold GoodSail at g1 g2
  exact ⟨hG, ⟨hf ▸ g1.2.1, hd ▸ g2.2.2.1, hne⟩, ht⟩
theorem late_goal {a : Option (List Nat)} (h : AnsIs N S fr tt t0 a) (hA : AskOk N S fr tt t0) {q : List Nat} {k : Nat} (hq : Goal N S fr t0 tt (q ++ [k])) : ¬ (S k).arr < lateOf S t0 a := by
  cases a with
  | none =>
    rcases h with h | h
    · exact absurd hA h
    · exact absurd hq (h _)
  | some p =>
    intro hl
    refine h.2.2 _ hq (.inl ?_)
    rw [timeOf_snoc]
    exact hl
theorem one_leg (hG : GoodTab N S) (hne : fr ≠ tt) (ht : In t0 0 10000) {a : Option (List Nat)} (h : AnsIs N S fr tt t0 a) {k : Nat} (hk : k < N) (hf : (S k).fr = fr) (hp : t0 ≤ (S k).dep) (hd : (S k).dst = tt) : ¬ (S k).arr < lateOf S t0 a := by
  have p1 : Path N S fr t0 ([] ++ [k]) := Path.snoc .nil hk (by rw [place_nil]; exact hf) (by rw [time_nil]; exact hp)
  exact late_goal h (ask_of hG hne ht hk hk hf hd) (q := []) ⟨p1, by simp, by rw [placeOf_snoc]; exact hd⟩
theorem two_legs (hG : GoodTab N S) (hne : fr ≠ tt) (ht : In t0 0 10000) {a : Option (List Nat)} (h : AnsIs N S fr tt t0 a) {k j : Nat} {G : Nat → Int} (hk : k < N) (hj : j < N) (hf : (S k).fr = fr) (hp : t0 ≤ (S k).dep)
    (g0 : G 0 = (S k).id) (g1 : G 1 = (S j).id) (hl : LegsOk N S 2 G) (hd : (S j).dst = tt) : ¬ (S j).arr < lateOf S t0 a := by
  have p1 : Path N S fr t0 ([] ++ [k]) := Path.snoc .nil hk (by rw [place_nil]; exact hf) (by rw [time_nil]; exact hp)
  have l1 := (hl.2.2 1 (by omega)).2 (by omega)
  have e0 : findIx S (G (1 - 1)) N = k := by show findIx S (G 0) N = k; rw [g0]; exact find_self hG hk
  rw [e0, g1, find_self hG hj] at l1
  have p2 : Path N S fr t0 (([] ++ [k]) ++ [j]) := Path.snoc p1 hj (by rw [placeOf_snoc]; exact l1.1.symm) (by rw [timeOf_snoc]; exact l1.2)
  exact late_goal h (ask_of hG hne ht hk hj hf hd) (q := [] ++ [k]) ⟨p2, by simp, by rw [placeOf_snoc]; exact hd⟩
theorem best_last (hA : AskOk N S fr tt t0) {p : List Nat} (hp : Goal N S fr t0 tt p) : ∃ r k, p = r ++ [k] ∧ k < N := by
  rcases List.eq_nil_or_concat p with e | ⟨r, k, e⟩
  · subst e
    exact absurd (hp.2.2 : fr = tt) hA.2.1.2.2
  · have e : p = r ++ [k] := by rw [e]; simp
    subst e
    exact ⟨r, k, rfl, hp.1.last.2.1⟩
theorem getI_ids {p : List Nat} {i : Nat} (hi : i < p.length) : getI (ids S p) i = (S (p[i])).id := by
  unfold getI ids
  simp [List.getD_eq_getElem?_getD, hi]
theorem path_each : ∀ {p : List Nat}, Path N S fr t0 p → ∀ i (hi : i < p.length), p[i] < N ∧ (0 < i → (S (p[i - 1])).dst = (S (p[i])).fr ∧ (S (p[i - 1])).arr ≤ (S (p[i])).dep) := by
  intro p
  refine snocRec (P := fun p => Path N S fr t0 p → ∀ i (hi : i < p.length), p[i] < N ∧ (0 < i → (S (p[i - 1])).dst = (S (p[i])).fr ∧ (S (p[i - 1])).arr ≤ (S (p[i])).dep)) ?_ ?_ p
  · intro _ i hi; simp at hi
  · intro r k ih h i hi
    obtain ⟨h1, h2, h3, h4⟩ := h.last
    by_cases c : i < r.length
    · have := ih h1 i c
      rw [List.getElem_append_left c]
      refine ⟨this.1, fun h0 => ?_⟩
      have hc : i - 1 < r.length := by omega
      simp only [List.getElem_append_left hc]
      exact this.2 h0
    · have e : i = r.length := by simp at hi; omega
      subst e
      rw [List.getElem_append_right (Nat.le_refl _)]
      simp only [Nat.sub_self, List.getElem_singleton]
      refine ⟨h2, fun h0 => ?_⟩
      have hc : r.length - 1 < r.length := by omega
      simp only [List.getElem_append_left hc]
      have hl : r.getLast? = some (r[r.length - 1]) := by rw [List.getLast?_eq_getElem?, List.getElem?_eq_getElem hc]
      unfold placeOf at h3
      unfold timeOf at h4
      rw [hl] at h3 h4
      exact ⟨h3.symm, h4⟩
theorem ans_legs {p : List Nat} (h : AnsIs N S fr tt t0 (some p)) : LegsOk N S p.length (getI (ids S p)) := by
  obtain ⟨hA, ⟨hp, h3, hd⟩, _⟩ := h
  obtain ⟨r, k, e, _⟩ := best_last hA ⟨hp, h3, hd⟩
  refine ⟨by rw [e]; simp, h3, fun i hi => ?_⟩
  have hG := hA.1
  have g := path_each hp i hi
  unfold LegOk
  rw [getI_ids hi, find_self hG g.1]
  refine ⟨g.1, fun h0 => ?_⟩
  have hc : i - 1 < p.length := by omega
  rw [getI_ids hc, find_self hG (path_each hp (i - 1) hc).1]
  exact g.2 h0
end

/-- What is known of the answer when the law looks at its legs: whether there is one, the last leg's number among the sailings, when it comes. -/
theorem ans_end {N : Nat} {S : Nat → Sail} {fr tt : ByteArray} {t0 : Int} {a : Option (List Nat)} (h : AnsIs N S fr tt t0 a) (hs : a.isSome = true) :
    ∃ k, k < N ∧ GoodTab N S ∧ 0 < (a.getD []).length ∧ getI (ids S (a.getD [])) ((a.getD []).length - 1) = (S k).id ∧ lateOf S t0 a = (S k).arr ∧ LegsOk N S (a.getD []).length (getI (ids S (a.getD []))) := by
  cases a with
  | none => cases hs
  | some p =>
    obtain ⟨r, k, e, hk⟩ := best_last h.1 h.2.1
    refine ⟨k, hk, h.1.1, ?_, ?_, ?_, ans_legs h⟩
    · show 0 < p.length
      rw [e]; simp
    · show getI (ids S p) (p.length - 1) = _
      subst e
      rw [getI_ids (by simp)]
      simp
    · show timeOf S t0 p = _
      rw [e, timeOf_snoc]
theorem ans_not {N : Nat} {S : Nat → Sail} {fr tt : ByteArray} {t0 : Int} {a : Option (List Nat)} (h : AnsIs N S fr tt t0 a) (hA : ¬ (GoodTab N S ∧ fr ≠ tt ∧ In t0 0 10000)) : a = none := by
  cases a with
  | none => rfl
  | some p => exact absurd ⟨h.1.1, h.1.2.1.2.2, h.1.2.2⟩ hA

/-- The time that the law finds, sailing by sailing. -/
theorem late_steps {N : Nat} {S : Nat → Sail} {fr tt : ByteArray} {t0 : Int} {a : Option (List Nat)} (h : AnsIs N S fr tt t0 a) :
    ∃ T : Nat → Int, T 0 = 1099511627776 ∧ T N = lateOf S t0 a ∧ ∀ k, k < N → (a.isSome = true ∧ (S k).id = getI (ids S (a.getD [])) ((a.getD []).length - 1) → T (k + 1) = (S k).arr) ∧ (¬ (a.isSome = true ∧ (S k).id = getI (ids S (a.getD [])) ((a.getD []).length - 1)) → T (k + 1) = T k) := by
  cases hs : a.isSome with
  | false =>
    refine ⟨fun _ => 1099511627776, rfl, ?_, fun k hk => ⟨fun h => by simp at h, fun _ => rfl⟩⟩
    cases a with
    | none => rfl
    | some p => cases hs
  | true =>
    obtain ⟨q, hq, hG, _, h1, h2, _⟩ := ans_end h hs
    refine ⟨fun k => if q < k then (S q).arr else 1099511627776, rfl, ?_, fun k hk => ⟨fun h => ?_, fun h => ?_⟩⟩
    · show (if q < N then (S q).arr else 1099511627776) = _
      rw [if_pos hq, h2]
    · obtain rfl := tab_same hG hk hq (h.2.trans h1)
      show (if k < k + 1 then (S k).arr else 1099511627776) = _
      rw [if_pos (by omega)]
    · have hne : k ≠ q := fun e => h ⟨rfl, by rw [h1, e]⟩
      show (if q < k + 1 then (S q).arr else 1099511627776) = (if q < k then (S q).arr else 1099511627776)
      by_cases c : q < k
      · rw [if_pos c, if_pos (by omega)]
      · rw [if_neg c, if_neg (by omega)]

end Go.Proofs.Ythcjfoaejomfaaa
