/-
  OWN TEXT: the walk of laws.FnDecks: it returns true, and nothing that was there is written.
-/
import Derived.Test.YthhflmafpobgeaaDrawE
import Derived.Test.YthhflmafpobgeaaPlaceI
import Derived.Test.YthhflmafpobgeaaTakeI
import Derived.Test.YthhflmafpobgeaaFreeP
import Derived.Deep.DeepCutAuto
namespace Go.Proofs.Ythhflmafpobgeaa
open Go.RowKit

theorem placeOk_iff (p : Pairs) (n : Nat) (S : Nat → Stay) (x len hei : Int) : placeOk p n S x len hei = true ↔ ∃ k, Places p n S x len hei k := by
  unfold placeOk
  constructor
  · intro h
    cases e : placeAt p n S x len hei with
    | none => rw [e] at h; cases h
    | some k => exact ⟨k, placeAt_some e⟩
  · rintro ⟨k, hk⟩
    rw [placeAt_yes hk]; rfl
theorem placeOk_no {p : Pairs} {n : Nat} {S : Nat → Stay} {x len hei : Int} (h : ∀ k, ¬ Places p n S x len hei k) : placeOk p n S x len hei = false :=
  Bool.eq_false_iff.2 (fun e => by obtain ⟨k, hk⟩ := (placeOk_iff p n S x len hei).1 e; exact h k hk)
theorem placeLane_is {p : Pairs} {n : Nat} {S : Nat → Stay} {x len hei : Int} {k : Nat} (h : Places p n S x len hei k) : placeLane p n S x len hei = (k : Int) ∧ placeLen p n S x len hei = n + 1 ∧ placed p n S x len hei = stayCat S n (fun _ => ⟨x, (k : Int), len, hei⟩) := by
  have := placeAt_yes h
  unfold placed placeLane placeLen
  rw [this]
  exact ⟨rfl, rfl, rfl⟩

theorem firstLane_ex {p : Pairs} {F : Nat → Int} {len hei : Int} : ∀ {j : Nat}, j < p.n → (hei ≤ p.B j ∧ len ≤ F j) → ∃ k, FirstLane p F len hei k := by
  intro j
  induction j using Nat.strongRecOn with
  | _ j ih =>
    intro hj hf
    by_cases c : ∃ i, i < j ∧ (hei ≤ p.B i ∧ len ≤ F i)
    · obtain ⟨i, hi, hfi⟩ := c
      exact ih i hi (by omega) hfi
    · exact ⟨j, hj, hf, fun i hi h => c ⟨i, hi, h⟩⟩

set_option maxHeartbeats 6400000 in
set_option maxRecDepth 100000 in
theorem lawDecks (ao : Option Addr) (n c : Nat) (w : World) (hn : n ≤ 1000000000000000) (hx : BytesAt w ao n) :
    Calls Try.prog 6 #[.slice ao n c] w fun e w' => e = .returned (.bool true) ∧ Below w.heap.size w w' := by
  by_cases h20 : n ≤ 1048576
  · have d0 : decide (1048576 < n) = false := by simp; omega
    go_enter Try.func6, Try.ntmps6
    go_wp2_with fail
    refine (drawPlace_any ao n c _ hx).mono ?_
    rintro e w1 ⟨⟨vl, vs, x, len, hei, rfl, ⟨p, hp5, hop⟩, ⟨S, k, hk61, hos⟩⟩, hb1⟩
    obtain ⟨la, lc, rfl, _⟩ := own_form hop
    obtain ⟨sa, sc, rfl, hsc, _, hsn⟩ := own_form hos
    have HP : Hid (PairsAt w1 la p) := pairs_of_own rfl hop
    have HS : Hid (StaysAt w1 sa k S) := stays_of_own hos
    have HSN : Hid (sa = none → k = 0 ∧ sc = 0) := hsn
    clear hop hos hx hsn
    obtain ⟨ok, hok⟩ : ∃ q, q = placeOk p k S x len hei := ⟨_, rfl⟩
    obtain ⟨ln, hln⟩ : ∃ q, q = placeLane p k S x len hei := ⟨_, rfl⟩
    have HOK : Hid (ok = placeOk p k S x len hei) := hok
    have HLN : Hid (ln = placeLane p k S x len hei) := hln
    obtain ⟨m, hpm⟩ : ∃ m, m = p.n := ⟨_, rfl⟩
    have HPM : Hid (p.n = m) := hpm.symm
    rw [← hpm] at hp5 ⊢
    clear hok hln hpm
    go_wp2_with fail
    refine (implPlace_any la sa m lc k sc p S x len hei _ HPM.out (by omega) (by omega) hsc HP.out HS.out HSN.out).mono ?_
    rintro e w2 ⟨⟨v8, he2, ho8⟩, hb2⟩
    rw [← HOK.out, ← HLN.out] at he2
    subst he2
    have HP2 : Hid (PairsAt w2 la p) := HP.out.below hb2
    have HS2 : Hid (StaysAt w2 sa k S) := HS.out.below hb2
    have hb2' := after hb1 hb2
    clear hb1 hb2 HP HS
    go_wp2_with fail
    refine (specPlace_any la sa m lc k sc p S x len hei _ HPM.out (by omega) (by omega) hsc HP2.out HS2.out HSN.out).mono ?_
    rintro e w3 ⟨⟨v11, he3, _⟩, hb3⟩
    rw [← HOK.out, ← HLN.out] at he3
    subst he3
    have HP3 : Hid (PairsAt w3 la p) := HP2.out.below hb3
    have HS3 : Hid (StaysAt w3 sa k S) := HS2.out.below hb3
    have ho83 := own_below hb3 ho8
    have hb3' := after hb2' hb3
    clear hb2' hb3 HP2 HS2 ho8
    go_wp2_with fail
    refine (specFree_any la sa m lc k sc p S _ HPM.out (by omega) (by omega) hsc HP3.out HS3.out).mono ?_
    rintro e w4 ⟨⟨v14, rfl, ho14⟩, hb4⟩
    have HP4 : Hid (PairsAt w4 la p) := HP3.out.below hb4
    have HS4 : Hid (StaysAt w4 sa k S) := HS3.out.below hb4
    have ho84 := own_below hb4 ho83
    have hb4' := after hb3' hb4
    clear hb3' hb4 HP3 HS3 ho83
    by_cases hd : DeckI p k S
    · rw [deckOk_yes hd]
      rw [freeLen_yes hd, HPM.out] at ho14
      have HD : Hid (DeckI p k S) := hd
      have hk60 : k ≤ 60 := hd.2.1
      clear hd
      by_cases g0 : x < 1
      · have e0 : decide (x < 1) = true := decide_eq_true g0
        have HF : Hid (ok = false) := by rw [HOK.out]; exact placeOk_no (fun j h => by have := h.2.2.2.1; unfold In at this; omega)
        rw [HF.out]
        go_wp2
        go_ret
        exact ⟨rfl, hb4'⟩
      have e0 : decide (x < 1) = false := decide_eq_false g0
      by_cases g1 : 9999 < x
      · have e1 : decide (9999 < x) = true := decide_eq_true g1
        have HF : Hid (ok = false) := by rw [HOK.out]; exact placeOk_no (fun j h => by have := h.2.2.2.1; unfold In at this; omega)
        rw [HF.out]
        go_wp2
        go_ret
        exact ⟨rfl, hb4'⟩
      have e1 : decide (9999 < x) = false := decide_eq_false g1
      by_cases g2 : len < 1
      · have e2 : decide (len < 1) = true := decide_eq_true g2
        have HF : Hid (ok = false) := by rw [HOK.out]; exact placeOk_no (fun j h => by have := h.2.2.2.2.1; unfold In at this; omega)
        rw [HF.out]
        go_wp2
        go_ret
        exact ⟨rfl, hb4'⟩
      have e2 : decide (len < 1) = false := decide_eq_false g2
      by_cases g3 : 2000 < len
      · have e3 : decide (2000 < len) = true := decide_eq_true g3
        have HF : Hid (ok = false) := by rw [HOK.out]; exact placeOk_no (fun j h => by have := h.2.2.2.2.1; unfold In at this; omega)
        rw [HF.out]
        go_wp2
        go_ret
        exact ⟨rfl, hb4'⟩
      have e3 : decide (2000 < len) = false := decide_eq_false g3
      by_cases g4 : hei < 1
      · have e4 : decide (hei < 1) = true := decide_eq_true g4
        have HF : Hid (ok = false) := by rw [HOK.out]; exact placeOk_no (fun j h => by have := h.2.2.2.2.2.1; unfold In at this; omega)
        rw [HF.out]
        go_wp2
        go_ret
        exact ⟨rfl, hb4'⟩
      have e4 : decide (hei < 1) = false := decide_eq_false g4
      by_cases g5 : 500 < hei
      · have e5 : decide (500 < hei) = true := decide_eq_true g5
        have HF : Hid (ok = false) := by rw [HOK.out]; exact placeOk_no (fun j h => by have := h.2.2.2.2.2.1; unfold In at this; omega)
        rw [HF.out]
        go_wp2
        go_ret
        exact ⟨rfl, hb4'⟩
      have e5 : decide (500 < hei) = false := decide_eq_false g5
      by_cases g6 : k = 60
      · have e6 : (k == 60) = true := by simpa using g6
        have e7 : ((k : Int) == 60) = true := by simp; omega
        have HF : Hid (ok = false) := by rw [HOK.out]; exact placeOk_no (fun j h => h.2.1 g6)
        rw [HF.out]
        clear g6
        go_wp2
        go_ret
        exact ⟨rfl, hb4'⟩
      have e6 : (k == 60) = false := by simpa using g6
      have e7 : ((k : Int) == 60) = false := by simp; omega
      have HI : Hid (In x 1 9999 ∧ In len 1 2000 ∧ In hei 1 500 ∧ k ≠ 60) := ⟨⟨by omega, by omega⟩, ⟨by omega, by omega⟩, ⟨by omega, by omega⟩, g6⟩
      clear g0 g1 g2 g3 g4 g5 g6
      go_wp2
      go_loopw [17, 104] (fun _ i wr => ∃ t : Nat, t ≤ k ∧ i = .int .i64 t ∧ (∀ j, j < t → whoS S j ≠ x) ∧ Below w4.heap.size w4 wr) (fun _ i _ => k - (intOf i).toNat)
      case atStart => exact ⟨0, Nat.zero_le _, rfl, fun j hj => by omega, Below.refl _ _⟩
      case round =>
        obtain ⟨t, ht, rfl, hall, hbel⟩ := hrel
        have HA : Hid (∀ j, j < t → whoS S j ≠ x) := hall
        clear hall e0 e1 e2 e3 e4 e5 e6 e7
        by_cases hlt : t < k
        · obtain ⟨b, off, rfl, h0, h1, h2, h3⟩ := HS4.out t hlt
          have hb := World.block_lt_of_cell? w4 _ h0
          have c0 := (hbel.cell (p := ⟨b, off + t * 4, none⟩) hb).trans h0
          have c1 := (hbel.cell (p := ⟨b, off + t * 4 + 1, none⟩) hb).trans h1
          have c2 := (hbel.cell (p := ⟨b, off + t * 4 + 2, none⟩) hb).trans h2
          have c3 := (hbel.cell (p := ⟨b, off + t * 4 + 3, none⟩) hb).trans h3
          clear h0 h1 h2 h3
          by_cases he : whoS S t = x
          · have e1 : ((S t).who == x) = true := by unfold whoS at he; simpa using he
            have HF : Hid (ok = false) := by rw [HOK.out]; exact placeOk_no (fun j h => h.2.2.1 ⟨t, hlt, he⟩)
            rw [HF.out]
            clear he
            go_wp2
            go_ret
            exact ⟨rfl, after hb4' (push hbel _)⟩
          · have e1 : ((S t).who == x) = false := by unfold whoS at he; simpa using he
            have HE : Hid (whoS S t ≠ x) := he
            clear he
            go_wp2
            go_roundw
            case rel => exact ⟨t + 1, by omega, by go_num, fun j hj => by
              by_cases e : j = t
              · subst e; exact HE.out
              · exact HA.out j (by omega), push hbel _⟩
            case measure => simp [intOf]; omega
        · obtain rfl : t = k := by omega
          have HH : Hid (¬ Has (whoS S) t x) := not_has HA.out
          clear HA
          have HP5 : Hid (PairsAt wr la p) := HP4.out.below hbel
          have HS5 : Hid (StaysAt wr sa t S) := HS4.out.below hbel
          have ho85 := own_below hbel ho84
          have ho15 := own_below hbel ho14
          have hb5' := after hb4' hbel
          clear HP4 HS4 ho84 ho14 hb4' hbel
          generalize wr = w5 at *
          obtain ⟨fa, fc, rfl, _⟩ := own_form ho15
          have HI5 : Hid (IntsAt w5 fa m (left p S t)) := own_ints ho15
          clear ho15
          cases ok with
          | false =>
            have HNF : Hid (∀ j, j < m → ¬ (hei ≤ p.B j ∧ len ≤ left p S t j)) := by
              intro j hj hf
              obtain ⟨q, hq⟩ := firstLane_ex (p := p) (F := left p S t) (by rw [HPM.out]; exact hj) hf
              have := (placeOk_iff p t S x len hei).2 ⟨q, HD.out, HI.out.2.2.2, HH.out, HI.out.1, HI.out.2.1, HI.out.2.2.1, hq⟩
              rw [← HOK.out] at this
              cases this
            go_wp2
            go_loopw [18, 19, 20, 117] (fun _ _ _ i wr => ∃ q : Nat, q ≤ m ∧ i = .int .i64 q ∧ Below w5.heap.size w5 wr) (fun _ _ _ i _ => m - (intOf i).toNat)
            case atStart => exact ⟨0, Nat.zero_le _, rfl, Below.refl _ _⟩
            case round =>
              obtain ⟨q, hq, rfl, hbel⟩ := hrel
              by_cases hlq : q < m
              · obtain ⟨b, off, rfl, h1, h2⟩ := HP5.out q (by rw [HPM.out]; exact hlq)
                have hb := World.block_lt_of_cell? w5 _ h1
                have c1 := (hbel.cell (p := ⟨b, off + q * 2, none⟩) hb).trans h1
                have c2 := (hbel.cell (p := ⟨b, off + q * 2 + 1, none⟩) hb).trans h2
                obtain ⟨b3, off3, rfl, h3⟩ := HI5.out q hlq
                have hb3 := World.block_lt_of_cell? w5 _ h3
                have c3 : (wr.alloc (.cells #[.int .i64 (p.A q), .int .i64 (p.B q)] 74)).cell? ⟨b3, off3 + q, none⟩ = some (.int .i64 (left p S t q)) := ((push hbel _).cell (p := ⟨b3, off3 + q, none⟩) hb3).trans h3
                have i1 : (0 : Int) ≤ (q : Int) := by omega
                have i2 : (q : Int) < (m : Int) := by omega
                clear h1 h2 h3
                have hnf := HNF.out q hlq
                by_cases f1 : hei ≤ p.B q
                · have e1 : decide (hei ≤ p.B q) = true := decide_eq_true f1
                  have e2 : decide (len ≤ left p S t q) = false := decide_eq_false (fun h => hnf ⟨f1, h⟩)
                  clear hnf f1
                  go_wp2
                  go_roundw
                  case rel => exact ⟨q + 1, by omega, by go_num, push hbel _⟩
                  case measure => simp [intOf]; omega
                · have e1 : decide (hei ≤ p.B q) = false := decide_eq_false f1
                  clear hnf f1
                  go_wp2
                  go_roundw
                  case rel => exact ⟨q + 1, by omega, by go_num, push hbel _⟩
                  case measure => simp [intOf]; omega
              · obtain rfl : q = m := by omega
                go_wp2
                go_ret
                exact ⟨rfl, after hb5' hbel⟩
          | true =>
            obtain ⟨K, hK⟩ := (placeOk_iff p t S x len hei).1 HOK.out.symm
            obtain ⟨l1, l2, l3⟩ := placeLane_is hK
            rw [l2, l3] at ho85
            have HK : Hid (Places p t S x len hei K) := hK
            obtain rfl : ln = (K : Int) := HLN.out.trans l1
            clear l1 l2 l3 hK HLN
            go_wp2
            go_loopw [18, 19, 20, 117] (fun _ _ _ i wr => ∃ q : Nat, q ≤ m ∧ i = .int .i64 q ∧ Below w5.heap.size w5 wr) (fun _ _ _ i _ => m - (intOf i).toNat)
            case atStart => exact ⟨0, Nat.zero_le _, rfl, Below.refl _ _⟩
            case round =>
              obtain ⟨q, hq, rfl, hbel⟩ := hrel
              by_cases hlq : q < m
              · obtain ⟨b, off, rfl, h1, h2⟩ := HP5.out q (by rw [HPM.out]; exact hlq)
                have hb := World.block_lt_of_cell? w5 _ h1
                have c1 := (hbel.cell (p := ⟨b, off + q * 2, none⟩) hb).trans h1
                have c2 := (hbel.cell (p := ⟨b, off + q * 2 + 1, none⟩) hb).trans h2
                obtain ⟨b3, off3, rfl, h3⟩ := HI5.out q hlq
                have hb3 := World.block_lt_of_cell? w5 _ h3
                have c3 : (wr.alloc (.cells #[.int .i64 (p.A q), .int .i64 (p.B q)] 74)).cell? ⟨b3, off3 + q, none⟩ = some (.int .i64 (left p S t q)) := ((push hbel _).cell (p := ⟨b3, off3 + q, none⟩) hb3).trans h3
                have i1 : (0 : Int) ≤ (q : Int) := by omega
                have i2 : (q : Int) < (m : Int) := by omega
                clear h1 h2 h3
                by_cases f1 : hei ≤ p.B q
                · have e1 : decide (hei ≤ p.B q) = true := decide_eq_true f1
                  by_cases f2 : len ≤ left p S t q
                  · have e2 : decide (len ≤ left p S t q) = true := decide_eq_true f2
                    have hge : K ≤ q := by
                      by_cases c : q < K
                      · exact absurd ⟨f1, f2⟩ (HK.out.2.2.2.2.2.2.2.2 q c)
                      · omega
                    have e3 : decide (q < K) = false := decide_eq_false (by omega)
                    clear f1 f2
                    by_cases f3 : q = K
                    · have e4 : ((q : Int) == (K : Int)) = true := by simp; omega
                      clear f3 hge
                      go_wp2
                      go_roundw
                      case rel => exact ⟨q + 1, by omega, by go_num, push hbel _⟩
                      case measure => simp [intOf]; omega
                    · have e4 : ((q : Int) == (K : Int)) = false := by simp; omega
                      clear f3 hge
                      go_wp2
                      go_roundw
                      case rel => exact ⟨q + 1, by omega, by go_num, push hbel _⟩
                      case measure => simp [intOf]; omega
                  · have e2 : decide (len ≤ left p S t q) = false := decide_eq_false f2
                    have hne : q ≠ K := fun e => f2 (by rw [e]; exact HK.out.2.2.2.2.2.2.2.1.2)
                    have e4 : ((q : Int) == (K : Int)) = false := by simp; omega
                    clear f1 f2 hne
                    go_wp2
                    go_roundw
                    case rel => exact ⟨q + 1, by omega, by go_num, push hbel _⟩
                    case measure => simp [intOf]; omega
                · have e1 : decide (hei ≤ p.B q) = false := decide_eq_false f1
                  have hne : q ≠ K := fun e => f1 (by rw [e]; exact HK.out.2.2.2.2.2.2.2.1.1)
                  have e4 : ((q : Int) == (K : Int)) = false := by simp; omega
                  clear f1 hne
                  go_wp2
                  go_roundw
                  case rel => exact ⟨q + 1, by omega, by go_num, push hbel _⟩
                  case measure => simp [intOf]; omega
              · obtain rfl : q = m := by omega
                have ho86 := own_below hbel ho85
                have HP6 : Hid (PairsAt wr la p) := HP5.out.below hbel
                have HS6 : Hid (StaysAt wr sa t S) := HS5.out.below hbel
                have hb6' := after hb5' hbel
                clear ho85 HP5 HS5 hb5' hbel HI5
                generalize wr = w6 at *
                obtain ⟨a8, c8, rfl, hc8, _⟩ := own_form ho86
                have HX8 : Hid (StaysAt w6 a8 (t + 1) (stayCat S t (fun _ => ⟨x, (K : Int), len, hei⟩))) := stays_of_own ho86
                have HPD : Hid _ := place_deck HK.out
                clear ho86
                go_wp2_with fail
                refine (implTake_any la a8 q lc (t + 1) c8 p (stayCat S t (fun _ => ⟨x, (K : Int), len, hei⟩)) x _ HPM.out (by omega) (by omega) hc8 HP6.out HX8.out).mono ?_
                rintro e w7 ⟨⟨v21, he7, ho21⟩, hb7⟩
                have t1 := takeOk_yes HPD.out.1 HPD.out.2.1
                rw [t1] at he7
                subst he7
                unfold takeLen taken at ho21
                rw [t1, HPD.out.2.2] at ho21
                have ho21' : w7.ownsRow w6.heap.size 72 4 v21 t (stayList S t) := by
                  rw [stayList_congr (S := S) (S' := without (stayCat S t (fun _ => ⟨x, (K : Int), len, hei⟩)) t) (fun i hi => (without_cat hi).symm)]
                  exact ho21
                clear ho21 t1
                obtain ⟨a21, c21, rfl, _⟩ := own_form ho21'
                have HP7 : Hid (PairsAt w7 la p) := HP6.out.below hb7
                have HX7 : Hid (StaysAt w7 a8 (t + 1) (stayCat S t (fun _ => ⟨x, (K : Int), len, hei⟩))) := HX8.out.below hb7
                have HS7 : Hid (StaysAt w7 sa t S) := HS6.out.below hb7
                have hb7' := after hb6' hb7
                clear HP6 HX8 HS6 hb6' hb7
                go_wp2_with fail
                refine (implDeck_any la a8 q lc (t + 1) c8 p (stayCat S t (fun _ => ⟨x, (K : Int), len, hei⟩)) _ HPM.out (by omega) (by omega) hc8 HP7.out HX7.out).mono ?_
                rintro e w8 ⟨⟨qq, rfl, hqq⟩, hb8⟩
                obtain rfl : qq = true := hqq.2 HPD.out.1
                have HY8 : Hid (StaysAt w8 a21 t S) := stays_of_own (own_below hb8 ho21')
                have HS8 : Hid (StaysAt w8 sa t S) := HS7.out.below hb8
                have hb8' := after hb7' hb8
                clear HP7 HX7 HS7 hb7' hb8 ho21' hqq
                go_wp2
                go_loopw [23, 183] (fun _ i wr => ∃ z : Nat, z ≤ t ∧ i = .int .i64 z ∧ Below w8.heap.size w8 wr) (fun _ i _ => t - (intOf i).toNat)
                case atStart => exact ⟨0, Nat.zero_le _, rfl, Below.refl _ _⟩
                case round =>
                  obtain ⟨z, hz, rfl, hbel⟩ := hrel
                  by_cases hlz : z < t
                  · obtain ⟨b, off, rfl, h0, h1, h2, h3⟩ := HY8.out z hlz
                    obtain ⟨b2, off2, rfl, k0, k1, k2, k3⟩ := HS8.out z hlz
                    have hb := World.block_lt_of_cell? w8 _ h0
                    have hb2 := World.block_lt_of_cell? w8 _ k0
                    have c0 := (hbel.cell (p := ⟨b, off + z * 4, none⟩) hb).trans h0
                    have c1 := (hbel.cell (p := ⟨b, off + z * 4 + 1, none⟩) hb).trans h1
                    have c2 := (hbel.cell (p := ⟨b, off + z * 4 + 2, none⟩) hb).trans h2
                    have c3 := (hbel.cell (p := ⟨b, off + z * 4 + 3, none⟩) hb).trans h3
                    have c4 := (hbel.cell (p := ⟨b2, off2 + z * 4, none⟩) hb2).trans k0
                    have c5 := (hbel.cell (p := ⟨b2, off2 + z * 4 + 1, none⟩) hb2).trans k1
                    have c6 := (hbel.cell (p := ⟨b2, off2 + z * 4 + 2, none⟩) hb2).trans k2
                    have c7 := (hbel.cell (p := ⟨b2, off2 + z * 4 + 3, none⟩) hb2).trans k3
                    have i1 : (0 : Int) ≤ (z : Int) := by omega
                    have i2 : (z : Int) < (t : Int) := by omega
                    clear h0 h1 h2 h3 k0 k1 k2 k3
                    go_wp2
                    go_quiet (fail)
                    go_wp2
                    go_roundw
                    case rel => exact ⟨z + 1, by omega, by go_num, below_drewN hbel _⟩
                    case measure => simp [intOf]; omega
                  · obtain rfl : z = t := by omega
                    go_wp2
                    go_ret
                    exact ⟨rfl, after hb8' hbel⟩
    · rw [deckOk_no hd]
      have HF : Hid (ok = false) := by rw [HOK.out]; exact placeOk_no (fun j h => hd h.1)
      rw [HF.out]
      clear hd
      go_wp2
      go_ret
      exact ⟨rfl, hb4'⟩
  · have d0 : decide (1048576 < n) = true := by simp; omega
    go_enter Try.func6, Try.ntmps6
    go_wp2
    go_ret
    exact ⟨rfl, Below.refl _ _⟩

end Go.Proofs.Ythhflmafpobgeaa
