/-
  OWN TEXT: KitAk, CodeI.
-/
import Derived.Deep.RegionLawGrows
import Derived.Test.YtdmkpflphjemoaaB25
import Derived.Test.YtdmkpflphjemoaaB16
namespace Go.Proofs.Ytdmkpflphjemoaa
open Go.RowKit

def shF (p i : Nat) : Nat := if i < p then i else i - 1
theorem insF_ne {α : Type} {f : Nat → α} {p : Nat} {y : α} {i : Nat} (h : i ≠ p) : insF f p y i = f (shF p i) := by
  unfold insF shF
  by_cases h1 : i < p
  · rw [if_pos h1, if_pos h1]
  · rw [if_neg h1, if_neg h, if_neg h1]
theorem shF_lt {p i N : Nat} (hp : p ≤ N) (hi : i < N + 1) (h : i ≠ p) : shF p i < N := by unfold shF; split <;> omega
theorem shF_inj {p i j : Nat} (hi : i ≠ p) (hj : j ≠ p) (h : i ≠ j) : shF p i ≠ shF p j := by unfold shF; split <;> split <;> omega
theorem nil_block (b : Nat) : (Value.slice none 0 0).ownBlock ≠ some b := by simp [Value.ownBlock]

/-- One lock more at its place. -/
theorem LocksOwn.ins {w w' : World} {base N c p : Nat} {ao : Option Addr} {v' hv : Value} {key : Int} {l : Line} {K : Nat → Int} {H Q : Nat → Line} {hs qs : Nat → Value} (L : LocksOwn w base N (.slice ao N c) K H Q hs qs) (hp : p ≤ N)
    (h1 : w.ownsRow base 57 2 hv l.n (askList l)) (hfar : ∀ b, hv.ownBlock = some b → ¬ LockBlocks N (.slice ao N c) hs qs b) (hg : w.grownBy w' (Value.slice ao N c).ownBlock)
    (ho : w'.ownsRow base 60 3 v' (N + 1) (insK ((List.range (N * 3)).map (lockCell K hs qs)) p key hv (.slice none 0 0))) :
    LocksOwn w' base (N + 1) v' (insF K p key) (insF H p l) (insF Q p (lineOf [])) (insF hs p hv) (insF qs p (.slice none 0 0)) := by
  have hk := kept_by hg
  have far : ∀ {u : Value} {m : Line}, w.ownsRow base 57 2 u m.n (askList m) → w'.ownsRow base 57 2 u m.n (askList m) := fun h => hk.own h (fun g e1 e2 => own_apart L.row h (by decide) g e2 e1)
  refine ⟨by rw [lockRow_ins K hs qs N p key hv _ hp]; exact ho, fun i hi => ?_, fun i hi => ?_, fun i j hi hj hne b e1 e2 => ?_, fun i j hi hj b e1 e2 => ?_, fun i j hi hj hne b e1 e2 => ?_⟩
  · by_cases e : i = p
    · subst e; rw [insF_at, insF_at]; exact far h1
    · rw [insF_ne e, insF_ne e]; exact far (L.held _ (shF_lt hp hi e))
  · by_cases e : i = p
    · subst e; rw [insF_at, insF_at]; exact ⟨rfl, .inl ⟨rfl, rfl⟩⟩
    · rw [insF_ne e, insF_ne e]; exact far (L.queue _ (shF_lt hp hi e))
  · by_cases ei : i = p
    · subst ei
      rw [insF_at] at e1
      have ej : j ≠ i := fun h => hne h.symm
      rw [insF_ne ej] at e2
      exact hfar b e1 (.inr ⟨_, shF_lt hp hj ej, .inl e2⟩)
    · rw [insF_ne ei] at e1
      by_cases ej : j = p
      · subst ej; rw [insF_at] at e2; exact hfar b e2 (.inr ⟨_, shF_lt hp hi ei, .inl e1⟩)
      · rw [insF_ne ej] at e2; exact L.hh _ _ (shF_lt hp hi ei) (shF_lt hp hj ej) (shF_inj ei ej hne) b e1 e2
  · by_cases ej : j = p
    · subst ej; rw [insF_at] at e2; exact nil_block b e2
    · rw [insF_ne ej] at e2
      by_cases ei : i = p
      · subst ei; rw [insF_at] at e1; exact hfar b e1 (.inr ⟨_, shF_lt hp hj ej, .inr e2⟩)
      · rw [insF_ne ei] at e1; exact L.hq _ _ (shF_lt hp hi ei) (shF_lt hp hj ej) b e1 e2
  · by_cases ei : i = p
    · subst ei; rw [insF_at] at e1; exact nil_block b e1
    · rw [insF_ne ei] at e1
      by_cases ej : j = p
      · subst ej; rw [insF_at] at e2; exact nil_block b e2
      · rw [insF_ne ej] at e2; exact L.qq _ _ (shF_lt hp hi ei) (shF_lt hp hj ej) (shF_inj ei ej hne) b e1 e2

/-- Another line of those that hold lock p. -/
theorem LocksOwn.putHeld {w w1 : World} {base N g c p : Nat} {v2 : Value} {l : Line} {K : Nat → Int} {H Q : Nat → Line} {hs qs : Nat → Value} (L : LocksOwn w base N (.slice (some ⟨g, 0, none⟩) N c) K H Q hs qs) (hp : p < N)
    (hk : Kept w w1 (fun b => (hs p).ownBlock = some b)) (ho : w1.ownsRow base 57 2 v2 l.n (askList l)) (hat : ∀ b, v2.ownBlock = some b → (hs p).ownBlock = some b ∨ w.heap.size ≤ b) :
    LocksOwn (w1.setCell ⟨g, p * 3 + 1, none⟩ v2) base N (.slice (some ⟨g, 0, none⟩) N c) K (setF H p l) Q (setF hs p v2) qs := by
  have hr1 := hk.own L.row (fun b e1 e2 => own_apart L.row (L.held p hp) (by decide) b e1 e2)
  have hset : Kept w1 (w1.setCell ⟨g, p * 3 + 1, none⟩ v2) (fun b => b = g) := (Kept.refl w1 (fun b => b = g)).set (a := ⟨g, p * 3 + 1, none⟩) rfl _
  have go : ∀ {u : Value} {m : Line}, w1.ownsRow base 57 2 u m.n (askList m) → (w1.setCell ⟨g, p * 3 + 1, none⟩ v2).ownsRow base 57 2 u m.n (askList m) := fun h => hset.own h (fun b e1 e2 => own_apart hr1 h (by decide) g rfl (e2 ▸ e1))
  have hold : ∀ b, (hs p).ownBlock = some b → b < w.heap.size := fun b e => ((L.held p hp).lt b e).2
  have new : ∀ b, v2.ownBlock = some b → ∀ j, j < N → j ≠ p → (hs j).ownBlock ≠ some b := fun b e j hj hne e2 => by
    rcases hat b e with h | h
    · exact L.hh p j hp hj (fun h => hne h.symm) b h e2
    · have := ((L.held j hj).lt b e2).2; omega
  have newq : ∀ b, v2.ownBlock = some b → ∀ j, j < N → (qs j).ownBlock ≠ some b := fun b e j hj e2 => by
    rcases hat b e with h | h
    · exact L.hq p j hp hj b h e2
    · have := ((L.queue j hj).lt b e2).2; omega
  refine ⟨own_congr (own_store hr1 (p * 3 + 1) v2) (fun j _ => ?_), fun i hi => ?_, fun i hi => ?_, fun i j hi hj hne b e1 e2 => ?_, fun i j hi hj b e1 e2 => ?_, L.qq⟩
  · by_cases e : j = p * 3 + 1
    · subst e; rw [if_pos rfl, lockCell_1, setF_at]
    · rw [if_neg e]
      unfold lockCell
      by_cases e0 : j % 3 = 0
      · rw [if_pos e0, if_pos e0]
      · by_cases e1 : j % 3 = 1
        · rw [if_neg e0, if_neg e0, if_pos e1, if_pos e1, setF_ne (show j / 3 ≠ p by omega)]
        · rw [if_neg e0, if_neg e0, if_neg e1, if_neg e1]
  · by_cases e : i = p
    · subst e; rw [setF_at, setF_at]; exact go ho
    · rw [setF_ne e, setF_ne e]; exact go (hk.own (L.held i hi) (fun b e1 e2 => L.hh i p hi hp e b e1 e2))
  · exact go (hk.own (L.queue i hi) (fun b e1 e2 => L.hq p i hp hi b e2 e1))
  · by_cases ei : i = p
    · subst ei
      rw [setF_at] at e1
      rw [setF_ne (fun h => hne h.symm)] at e2
      exact new b e1 j hj (fun h => hne h.symm) e2
    · rw [setF_ne ei] at e1
      by_cases ej : j = p
      · subst ej; rw [setF_at] at e2; exact new b e2 i hi ei e1
      · rw [setF_ne ej] at e2; exact L.hh i j hi hj hne b e1 e2
  · by_cases ei : i = p
    · subst ei; rw [setF_at] at e1; exact newq b e1 j hj e2
    · rw [setF_ne ei] at e1; exact L.hq i j hi hj b e1 e2
/-- Another line of those that wait at lock p, in new memory. -/
theorem LocksOwn.putQueue {w w1 : World} {base N g c p : Nat} {v2 : Value} {l : Line} {K : Nat → Int} {H Q : Nat → Line} {hs qs : Nat → Value} (L : LocksOwn w base N (.slice (some ⟨g, 0, none⟩) N c) K H Q hs qs)
    (hk : Below w.heap.size w w1) (ho : w1.ownsRow w.heap.size 57 2 v2 l.n (askList l)) (hb : base ≤ w.heap.size) :
    LocksOwn (w1.setCell ⟨g, p * 3 + 2, none⟩ v2) base N (.slice (some ⟨g, 0, none⟩) N c) K H (setF Q p l) hs (setF qs p v2) := by
  have hr1 := own_below hk L.row
  have hset : Kept w1 (w1.setCell ⟨g, p * 3 + 2, none⟩ v2) (fun b => b = g) := (Kept.refl w1 (fun b => b = g)).set (a := ⟨g, p * 3 + 2, none⟩) rfl _
  have go : ∀ {u : Value} {m : Line}, w1.ownsRow base 57 2 u m.n (askList m) → (w1.setCell ⟨g, p * 3 + 2, none⟩ v2).ownsRow base 57 2 u m.n (askList m) := fun h => hset.own h (fun b e1 e2 => own_apart hr1 h (by decide) g rfl (e2 ▸ e1))
  have newh : ∀ b, v2.ownBlock = some b → ∀ j, j < N → (hs j).ownBlock ≠ some b := fun b e j hj e2 => by
    have := ((L.held j hj).lt b e2).2; have := (ho.lt b e).1; omega
  have newq : ∀ b, v2.ownBlock = some b → ∀ j, j < N → (qs j).ownBlock ≠ some b := fun b e j hj e2 => by
    have := ((L.queue j hj).lt b e2).2; have := (ho.lt b e).1; omega
  refine ⟨own_congr (own_store hr1 (p * 3 + 2) v2) (fun j _ => ?_), fun i hi => go (own_below hk (L.held i hi)), fun i hi => ?_, L.hh, fun i j hi hj b e1 e2 => ?_, fun i j hi hj hne b e1 e2 => ?_⟩
  · by_cases e : j = p * 3 + 2
    · subst e; rw [if_pos rfl, lockCell_2, setF_at]
    · rw [if_neg e]
      unfold lockCell
      by_cases e0 : j % 3 = 0
      · rw [if_pos e0, if_pos e0]
      · by_cases e1 : j % 3 = 1
        · rw [if_neg e0, if_neg e0, if_pos e1, if_pos e1]
        · rw [if_neg e0, if_neg e0, if_neg e1, if_neg e1, setF_ne (show j / 3 ≠ p by omega)]
  · by_cases e : i = p
    · subst e; rw [setF_at, setF_at]; exact go (own_base ho hb)
    · rw [setF_ne e, setF_ne e]; exact go (own_below hk (L.queue i hi))
  · by_cases ej : j = p
    · subst ej; rw [setF_at] at e2; exact newh b e2 i hi e1
    · rw [setF_ne ej] at e2; exact L.hq i j hi hj b e1 e2
  · by_cases ei : i = p
    · subst ei
      rw [setF_at] at e1
      rw [setF_ne (fun h => hne h.symm)] at e2
      exact newq b e1 j hj e2
    · rw [setF_ne ei] at e1
      by_cases ej : j = p
      · subst ej; rw [setF_at] at e2; exact newq b e2 i hi e1
      · rw [setF_ne ej] at e2; exact L.qq i j hi hj hne b e1 e2
theorem lockRow_one {w : World} {base N : Nat} {v : Value} {K : Nat → Int} {H Q : Nat → Line} {hs qs : Nat → Value} (L : LocksOwn w base N v K H Q hs qs) : ∀ u ∈ (List.range (N * 3)).map (lockCell K hs qs), u.oneCell' = true := by
  intro u hu
  obtain ⟨j, hj, rfl⟩ := List.mem_map.1 hu
  have hj' : j < N * 3 := by simpa using hj
  unfold lockCell
  split
  · rfl
  · split
    · obtain ⟨a, c, e, _⟩ := own_form (L.held (j / 3) (by omega)); rw [e]; rfl
    · obtain ⟨a, c, e, _⟩ := own_form (L.queue (j / 3) (by omega)); rw [e]; rfl

end Go.Proofs.Ytdmkpflphjemoaa

namespace Go.Proofs.Ytdmkpflphjemoaa
open Go.RowKit

set_option maxHeartbeats 800000 in
set_option maxRecDepth 100000 in
theorem codeOfAsk_any (ao : Option Addr) (N c : Nat) (K : Nat → Int) (H Q : Nat → Line) (x key : Int) (w : World) (hN : N ≤ 60) (hs : ShortTo N H Q 1048576) (hr : Rises N H) (hk : KeysUp N K) (hx : LocksAt w ao N K H Q) :
    Calls Try.prog 24 #[.slice ao N c, .int .i64 x, .int .i64 key] w fun e w' => (∃ code, e = .returned (.int .i64 code) ∧ Hid (AskCode N K H Q x key code)) ∧ Below w.heap.size w w' := by
  have HS : Hid (ShortTo N H Q 1048576) := hs
  have HR : Hid (Rises N H) := hr
  have HK : Hid (KeysUp N K) := hk
  have HX : Hid (LocksAt w ao N K H Q) := hx
  clear hs hr hk hx
  go_enter Try.func24, Try.ntmps24
  by_cases ht : isTask x
  · by_cases hke : isKeyI key
    · have HT : Hid (isTask x ∧ isKeyI key) := ⟨ht, hke⟩
      go_wp2_with (first
        | (go_at_call 20; refine (isTask_yes _ _ ht).mono ?_; rintro e w' ⟨rfl, hw'⟩; have hw1 := hw'.symm; subst hw1)
        | (go_at_call 21; refine (isKey_yes _ _ hke).mono ?_; rintro e w' ⟨rfl, hw'⟩; have hw1 := hw'.symm; subst hw1))
      clear ht hke
      refine (placeInQueue_any ao N c K H Q x w (by omega) HS.out HX.out).mono ?_
      rintro e w2 ⟨hpl, hb2⟩
      rcases hpl with ⟨i, j, hwi, _, rfl⟩ | ⟨hno, rfl⟩
      · have HW : Hid (¬ noWait N Q x) := fun h => noWait_not h hwi
        go_wp2
        go_ret
        exact ⟨⟨4, rfl, ⟨fun h => absurd HT.out h, fun _ _ => rfl, fun _ h => absurd h HW.out, fun _ h => absurd h HW.out⟩⟩, hb2⟩
      · have HW : Hid (noWait N Q x) := hno
        clear hno
        go_wp2_with fail
        refine (keysHeld_any ao N c K H Q x w2 (by omega) HS.out HR.out (HX.out.below hb2)).mono ?_
        rintro e w3 ⟨⟨v, rfl, hv⟩, hb3⟩
        obtain ⟨av, cv, rfl, _⟩ := own_form hv
        have hbb := after hb2 hb3
        have hle := keysTo_le K H x N
        rcases keysTo_last (K := K) (H := H) (x := x) N with ⟨h1, h2⟩ | ⟨h0, i, h1, h2, h3, h4⟩
        · have HH : Hid (¬ HoldsOn N K H x key) := fun ⟨i, hi, _, hin⟩ => h2 i hi hin
          rw [h1] at hv ⊢
          clear h1 h2 hb2 hb3
          have d0 : decide ((0 : Int) < (([] : List Int).length : Int)) = false := rfl
          go_wp2
          go_ret
          exact ⟨⟨0, rfl, ⟨fun h => absurd HT.out h, fun _ h => absurd HW.out h, fun _ _ h => absurd h HH.out, fun _ _ _ => rfl⟩⟩, hbb⟩
        · have hin := hv.ints
          obtain ⟨b, off, rfl, hc⟩ := hin ((keysTo K H x N).length - 1) (by omega)
          rw [h3] at hc
          generalize hkl : (keysTo K H x N).length = kl at *
          have d0 : decide ((0 : Int) < (kl : Int)) = true := by simp; omega
          have dw : IntKind.i64.wrap ((kl : Int) - 1) = (kl : Int) - 1 := by rw [IntKind.wrap_i64]; omega
          have dz : (0 : Int) ≤ (kl : Int) - 1 := by omega
          have dl : (kl : Int) - 1 < (kl : Int) := by omega
          have dn : ((kl : Int) - 1).toNat = kl - 1 := by omega
          have HI : Hid (i < N ∧ inLine (H i) x ∧ ∀ j, i < j → j < N → ¬ inLine (H j) x) := ⟨h1, h2, h4⟩
          have hky := HK.out.1 i h1
          generalize hy : K i = y at hc hky
          have HY : Hid (K i = y) := hy
          clear h1 h2 h3 h4 hb2 hb3 hy hv hin hkl
          by_cases hge : key ≤ y
          · have dg : decide (key ≤ y) = true := by simpa using hge
            have HH : Hid (HoldsOn N K H x key) := ⟨i, HI.out.1, by rw [HY.out]; exact hge, HI.out.2.1⟩
            go_wp2
            go_ret
            exact ⟨⟨3, rfl, ⟨fun h => absurd HT.out h, fun _ h => absurd HW.out h, fun _ _ _ => rfl, fun _ _ h => absurd HH.out h⟩⟩, hbb⟩
          · have dg : decide (key ≤ y) = false := by simpa using hge
            have HH : Hid (¬ HoldsOn N K H x key) := fun ⟨j, hj, h5, h6⟩ => by
              rcases Nat.lt_trichotomy i j with e | e | e
              · exact HI.out.2.2 j e hj h6
              · subst e; rw [HY.out] at h5; exact hge h5
              · have := HK.out.2 j i e HI.out.1; rw [HY.out] at this; omega
            go_wp2
            go_ret
            exact ⟨⟨0, rfl, ⟨fun h => absurd HT.out h, fun _ h => absurd HW.out h, fun _ _ h => absurd h HH.out, fun _ _ _ => rfl⟩⟩, hbb⟩
    · have HT : Hid (¬ (isTask x ∧ isKeyI key)) := fun h => hke h.2
      have HKE : Hid (¬ isKeyI key) := hke
      clear hke
      go_wp2_with (first
        | (go_at_call 20; refine (isTask_yes _ _ ht).mono ?_; rintro e w' ⟨rfl, hw'⟩; have hw1 := hw'.symm; subst hw1)
        | (go_at_call 21; refine (isKey_no _ _ HKE.out).mono ?_; rintro e w' ⟨rfl, hw'⟩; have hw1 := hw'.symm; subst hw1))
      go_ret
      exact ⟨⟨2, rfl, ⟨fun _ => rfl, fun h => absurd h HT.out, fun h => absurd h HT.out, fun h => absurd h HT.out⟩⟩, Below.refl _ _⟩
  · have HT : Hid (¬ isTask x) := ht
    clear ht
    go_wp2_with (first | (go_at_call 20; refine (isTask_no _ _ HT.out).mono ?_; rintro e w' ⟨rfl, hw'⟩; have hw1 := hw'.symm; subst hw1))
    go_ret
    exact ⟨⟨2, rfl, ⟨fun _ => rfl, fun h => absurd h.1 HT.out, fun h => absurd h.1 HT.out, fun h => absurd h.1 HT.out⟩⟩, Below.refl _ _⟩

set_option maxHeartbeats 1600000 in
set_option maxRecDepth 100000 in
theorem queueWith_any (ao : Option Addr) (n c : Nat) (l : Line) (x : Int) (s : Bool) (w : World) (e1 : l.n = n) (hn : n ≤ 1048576) (hsl : SliceOk ao n c) (hx : LineAt w ao l) :
    Calls Try.prog 50 #[.slice ao n c, .agg #[.int .i64 x, .bool s]] w fun e w' => (∃ v, e = .returned v ∧ w'.ownsRow w.heap.size 57 2 v (n + 1) (askList l ++ [.int .i64 x, .bool s])) ∧ Below w.heap.size w w' := by
  obtain ⟨j0, ji, jz0, jz1, jz2⟩ := info_parts Try.infoAsked
  have E1 : Hid (l.n = n) := e1
  have HX : Hid (LineAt w ao l) := hx
  have hc1 := hsl.1
  have hc2 := hsl.2.1
  have HN : Hid (ao = none → n = 0 ∧ c = 0) := hsl.2.2
  clear e1 hx hsl
  have hb0 : Below w.heap.size w (w.alloc (.cells #[.int .i64 x, .bool s] 57)) := push (Below.refl _ _) _
  have bA := heap_alloc_new w (.cells #[.int .i64 x, .bool s] 57)
  have i2 : (n : Int) ≤ (c : Int) := by omega
  have i3 : (0 : Int) ≤ (n : Int) := by omega
  go_enter Try.func50, Try.ntmps50
  go_upto_region 1 with fail
  generalize w.alloc (.cells #[.int .i64 x, .bool s] 57) = X at hb0 bA ⊢
  have y0 := blk_cell bA 0 _ rfl
  have y1 := blk_cell bA 1 _ rfl
  have HB : Hid (Below w.heap.size w X) := hb0
  have HLX : Hid (∀ Y, Below X.heap.size X Y → ∀ ad, ao = some ad → ∀ j u, (askList l)[j]? = some u → Y.cell? (ad.add j) = some u) := fun Y hY => line_cells (HX.out.below (after HB.out hY))
  have HLN : Hid ((askList l).length = n * 2) := by show (askList l).length = n * 2; rw [askList_length, E1.out]
  cases ao with
  | none =>
    obtain ⟨rfl, rfl⟩ := HN.out rfl
    go_region_law (refine step_append_grows (by rfl) (.tmp 10) (.tmp 12) 79 (by rfl) 57 j0 (.agg #[.int .i64 0, .bool false]) 2 16 Try.underlying79 ji jz0 jz1 jz2 rfl (by decide) none 0 0 (askList l) (by rfl) (fun _ => ⟨rfl, rfl⟩) HLN.out (fun _ h => by cases h) ⟨X.heap.size, 0, none⟩ 1 1 [.int .i64 x, .bool s] (by rfl) (by rfl) (World.news_of_block (cs := #[.int .i64 x, .bool s]) (t := 57) (fr := (0, 0)) (heap_alloc_new X _)) (by intro u hu; simp at hu; rcases hu with rfl | rfl <;> rfl) (by omega) (by unfold maxLen; omega) (by omega) ?_; intro v5 w5 ho5 hg5)
    all_goals
      go_wp2
      go_ret
      exact ⟨⟨_, rfl, own_base ho5 (Nat.le_trans HB.out.size (by simp))⟩, after (push HB.out _).drew (grown_below hg5)⟩
  | some ad =>
    have q1 : ¬ (n < n) := by omega
    go_region_law (refine step_append_grows (by rfl) (.tmp 10) (.tmp 12) 79 (by rfl) 57 j0 (.agg #[.int .i64 0, .bool false]) 2 16 Try.underlying79 ji jz0 jz1 jz2 rfl (by decide) (some ad) n n (askList l) (by rfl) (fun h => by cases h) HLN.out (HLX.out _ (by repeat (first | exact Below.refl _ _ | refine Below.drew ?_ | refine push ?_ _))) ⟨X.heap.size, 0, none⟩ 1 1 [.int .i64 x, .bool s] (by rfl) (by rfl) (World.news_of_block (cs := #[.int .i64 x, .bool s]) (t := 57) (fr := (0, 0)) (heap_alloc_new X _)) (by intro u hu; simp at hu; rcases hu with rfl | rfl <;> rfl) (by omega) (by unfold maxLen; omega) (by omega) ?_; intro v5 w5 ho5 hg5)
    all_goals
      go_wp2
      go_ret
      exact ⟨⟨_, rfl, own_base ho5 (Nat.le_trans HB.out.size (by simp))⟩, after (push HB.out _).drew (grown_below hg5)⟩

end Go.Proofs.Ytdmkpflphjemoaa
