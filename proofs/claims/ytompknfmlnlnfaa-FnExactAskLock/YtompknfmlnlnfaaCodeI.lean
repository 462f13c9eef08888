/-
  OWN TEXT: contracts of impl.codeOfAsk and impl.queue.with.
-/
import Derived.Test.YtompknfmlnlnfaaPlainAk
import Derived.Test.YtompknfmlnlnfaaKit3
import Derived.Deep.RegionLawGrows
namespace Go.Proofs.Ytompknfmlnlnfaa
open Go.RowKit

set_option maxHeartbeats 800000 in
set_option maxRecDepth 100000 in
theorem codeOfAsk_any (ao : Option Addr) (N c : Nat) (K : Nat → Int) (H Q : Nat → Line) (x key : Int) (w : World) (hN : N ≤ 60) (hs : ShortTo N H Q 1048576) (hr : Rises N H) (hk : KeysUp N K) (hx : LocksAt w ao N K H Q) :
    Calls Try.prog 34 #[.slice ao N c, .int .i64 x, .int .i64 key] w fun e w' => (∃ code, e = .returned (.int .i64 code) ∧ Hid (AskCode N K H Q x key code)) ∧ Below w.heap.size w w' := by
  have HS : Hid (ShortTo N H Q 1048576) := hs
  have HR : Hid (Rises N H) := hr
  have HK : Hid (KeysUp N K) := hk
  have HX : Hid (LocksAt w ao N K H Q) := hx
  clear hs hr hk hx
  go_enter Try.func34, Try.ntmps34
  by_cases ht : isTask x
  · by_cases hke : isKeyI key
    · have HT : Hid (isTask x ∧ isKeyI key) := ⟨ht, hke⟩
      go_wp2_with (first
        | (go_at_call 30; refine (isTask_yes _ _ ht).mono ?_; rintro e w' ⟨rfl, hw'⟩; have hw1 := hw'.symm; subst hw1)
        | (go_at_call 31; refine (isKey_yes _ _ hke).mono ?_; rintro e w' ⟨rfl, hw'⟩; have hw1 := hw'.symm; subst hw1))
      clear ht hke
      refine (placeInQueue_any ao N c K H Q x w (by omega) HS.out HX.out).mono ?_
      rintro e w2 ⟨hpl, hb2⟩
      rcases hpl with ⟨i, j, hwi, _, rfl⟩ | ⟨hno, rfl⟩
      · have HW : Hid (¬ noWait N Q x) := fun h => noWait_not h hwi
        go_wp2
        go_ret
        exact ⟨⟨4, rfl, ⟨fun h => absurd HT.out h, fun _ _ => rfl, fun _ h => absurd h HW.out, fun _ h => absurd h HW.out⟩⟩, hb2⟩
      · have HW : Hid (noWait N Q x) := hno
        clear hno
        go_wp2_with fail
        refine (keysHeld_any ao N c K H Q x w2 (by omega) HS.out HR.out (HX.out.below hb2)).mono ?_
        rintro e w3 ⟨⟨v, rfl, hv⟩, hb3⟩
        obtain ⟨av, cv, rfl, _⟩ := own_form hv
        have hbb := after hb2 hb3
        have hle := keysTo_le K H x N
        rcases keysTo_last (K := K) (H := H) (x := x) N with ⟨h1, h2⟩ | ⟨h0, i, h1, h2, h3, h4⟩
        · have HH : Hid (¬ HoldsOn N K H x key) := fun ⟨i, hi, _, hin⟩ => h2 i hi hin
          rw [h1] at hv ⊢
          clear h1 h2 hb2 hb3
          have d0 : decide ((0 : Int) < (([] : List Int).length : Int)) = false := rfl
          go_wp2
          go_ret
          exact ⟨⟨0, rfl, ⟨fun h => absurd HT.out h, fun _ h => absurd HW.out h, fun _ _ h => absurd h HH.out, fun _ _ _ => rfl⟩⟩, hbb⟩
        · have hin := hv.ints
          obtain ⟨b, off, rfl, hc⟩ := hin ((keysTo K H x N).length - 1) (by omega)
          rw [h3] at hc
          generalize hkl : (keysTo K H x N).length = kl at *
          have d0 : decide ((0 : Int) < (kl : Int)) = true := by simp; omega
          have dw : IntKind.i64.wrap ((kl : Int) - 1) = (kl : Int) - 1 := by rw [IntKind.wrap_i64]; omega
          have dz : (0 : Int) ≤ (kl : Int) - 1 := by omega
          have dl : (kl : Int) - 1 < (kl : Int) := by omega
          have dn : ((kl : Int) - 1).toNat = kl - 1 := by omega
          have HI : Hid (i < N ∧ inLine (H i) x ∧ ∀ j, i < j → j < N → ¬ inLine (H j) x) := ⟨h1, h2, h4⟩
          have hky := HK.out.1 i h1
          generalize hy : K i = y at hc hky
          have HY : Hid (K i = y) := hy
          clear h1 h2 h3 h4 hb2 hb3 hy hv hin hkl
          by_cases hge : key ≤ y
          · have dg : decide (key ≤ y) = true := by simpa using hge
            have HH : Hid (HoldsOn N K H x key) := ⟨i, HI.out.1, by rw [HY.out]; exact hge, HI.out.2.1⟩
            go_wp2
            go_ret
            exact ⟨⟨3, rfl, ⟨fun h => absurd HT.out h, fun _ h => absurd HW.out h, fun _ _ _ => rfl, fun _ _ h => absurd HH.out h⟩⟩, hbb⟩
          · have dg : decide (key ≤ y) = false := by simpa using hge
            have HH : Hid (¬ HoldsOn N K H x key) := fun ⟨j, hj, h5, h6⟩ => by
              rcases Nat.lt_trichotomy i j with e | e | e
              · exact HI.out.2.2 j e hj h6
              · subst e; rw [HY.out] at h5; exact hge h5
              · have := HK.out.2 j i e HI.out.1; rw [HY.out] at this; omega
            go_wp2
            go_ret
            exact ⟨⟨0, rfl, ⟨fun h => absurd HT.out h, fun _ h => absurd HW.out h, fun _ _ h => absurd h HH.out, fun _ _ _ => rfl⟩⟩, hbb⟩
    · have HT : Hid (¬ (isTask x ∧ isKeyI key)) := fun h => hke h.2
      have HKE : Hid (¬ isKeyI key) := hke
      clear hke
      go_wp2_with (first
        | (go_at_call 30; refine (isTask_yes _ _ ht).mono ?_; rintro e w' ⟨rfl, hw'⟩; have hw1 := hw'.symm; subst hw1)
        | (go_at_call 31; refine (isKey_no _ _ HKE.out).mono ?_; rintro e w' ⟨rfl, hw'⟩; have hw1 := hw'.symm; subst hw1))
      go_ret
      exact ⟨⟨2, rfl, ⟨fun _ => rfl, fun h => absurd h HT.out, fun h => absurd h HT.out, fun h => absurd h HT.out⟩⟩, Below.refl _ _⟩
  · have HT : Hid (¬ isTask x) := ht
    clear ht
    go_wp2_with (first | (go_at_call 30; refine (isTask_no _ _ HT.out).mono ?_; rintro e w' ⟨rfl, hw'⟩; have hw1 := hw'.symm; subst hw1))
    go_ret
    exact ⟨⟨2, rfl, ⟨fun _ => rfl, fun h => absurd h.1 HT.out, fun h => absurd h.1 HT.out, fun h => absurd h.1 HT.out⟩⟩, Below.refl _ _⟩

set_option maxHeartbeats 1600000 in
set_option maxRecDepth 100000 in
theorem queueWith_any (ao : Option Addr) (n c : Nat) (l : Line) (x : Int) (s : Bool) (w : World) (e1 : l.n = n) (hn : n ≤ 1048576) (hsl : SliceOk ao n c) (hx : LineAt w ao l) :
    Calls Try.prog 65 #[.slice ao n c, .agg #[.int .i64 x, .bool s]] w fun e w' => (∃ v, e = .returned v ∧ w'.ownsRow w.heap.size 65 2 v (n + 1) (askList l ++ [.int .i64 x, .bool s])) ∧ Below w.heap.size w w' := by
  obtain ⟨j0, ji, jz0, jz1, jz2⟩ := info_parts Try.infoAsked
  have E1 : Hid (l.n = n) := e1
  have HX : Hid (LineAt w ao l) := hx
  have hc1 := hsl.1
  have hc2 := hsl.2.1
  have HN : Hid (ao = none → n = 0 ∧ c = 0) := hsl.2.2
  clear e1 hx hsl
  have hb0 : Below w.heap.size w (w.alloc (.cells #[.int .i64 x, .bool s] 65)) := push (Below.refl _ _) _
  have bA := heap_alloc_new w (.cells #[.int .i64 x, .bool s] 65)
  have i2 : (n : Int) ≤ (c : Int) := by omega
  have i3 : (0 : Int) ≤ (n : Int) := by omega
  go_enter Try.func65, Try.ntmps65
  go_upto_region 1 with fail
  generalize w.alloc (.cells #[.int .i64 x, .bool s] 65) = X at hb0 bA ⊢
  have y0 := blk_cell bA 0 _ rfl
  have y1 := blk_cell bA 1 _ rfl
  have HB : Hid (Below w.heap.size w X) := hb0
  have HLX : Hid (∀ Y, Below X.heap.size X Y → ∀ ad, ao = some ad → ∀ j u, (askList l)[j]? = some u → Y.cell? (ad.add j) = some u) := fun Y hY => line_cells (HX.out.below (after HB.out hY))
  have HLN : Hid ((askList l).length = n * 2) := by show (askList l).length = n * 2; rw [askList_length, E1.out]
  cases ao with
  | none =>
    obtain ⟨rfl, rfl⟩ := HN.out rfl
    go_region_law (refine step_append_grows (by rfl) (.tmp 10) (.tmp 12) 92 (by rfl) 65 j0 (.agg #[.int .i64 0, .bool false]) 2 16 Try.underlying92 ji jz0 jz1 jz2 rfl (by decide) none 0 0 (askList l) (by rfl) (fun _ => ⟨rfl, rfl⟩) HLN.out (fun _ h => by cases h) ⟨X.heap.size, 0, none⟩ 1 1 [.int .i64 x, .bool s] (by rfl) (by rfl) (World.news_of_block (cs := #[.int .i64 x, .bool s]) (t := 65) (fr := (0, 0)) (heap_alloc_new X _)) (by intro u hu; simp at hu; rcases hu with rfl | rfl <;> rfl) (by omega) (by unfold maxLen; omega) (by omega) ?_; intro v5 w5 ho5 hg5)
    all_goals
      go_wp2
      go_ret
      exact ⟨⟨_, rfl, own_base ho5 (Nat.le_trans HB.out.size (by simp))⟩, after (push HB.out _).drew (grown_below hg5)⟩
  | some ad =>
    have q1 : ¬ (n < n) := by omega
    go_region_law (refine step_append_grows (by rfl) (.tmp 10) (.tmp 12) 92 (by rfl) 65 j0 (.agg #[.int .i64 0, .bool false]) 2 16 Try.underlying92 ji jz0 jz1 jz2 rfl (by decide) (some ad) n n (askList l) (by rfl) (fun h => by cases h) HLN.out (HLX.out _ (by repeat (first | exact Below.refl _ _ | refine Below.drew ?_ | refine push ?_ _))) ⟨X.heap.size, 0, none⟩ 1 1 [.int .i64 x, .bool s] (by rfl) (by rfl) (World.news_of_block (cs := #[.int .i64 x, .bool s]) (t := 65) (fr := (0, 0)) (heap_alloc_new X _)) (by intro u hu; simp at hu; rcases hu with rfl | rfl <;> rfl) (by omega) (by unfold maxLen; omega) (by omega) ?_; intro v5 w5 ho5 hg5)
    all_goals
      go_wp2
      go_ret
      exact ⟨⟨_, rfl, own_base ho5 (Nat.le_trans HB.out.size (by simp))⟩, after (push HB.out _).drew (grown_below hg5)⟩

end Go.Proofs.Ytompknfmlnlnfaa
