/-
  OWN TEXT: contracts of the specification's l4Place and PlaceCar.
-/
import Derived.Test.YtaalhmaacaahhaaSpecD2
import Derived.Test.YtaalhmaacaahhaaPlainP
import Derived.Test.YtaalhmaacaahhaaInfoStay
namespace Go.Proofs.Ytaalhmaacaahhaa
open Go.RowKit

/-- What l4Place answers. -/
def PlaceIx (p : Pairs) (n : Nat) (S : Nat → Stay) (len hei : Int) (r : Int) : Prop :=
  (∃ k : Nat, r = (k : Int) ∧ n ≠ 60 ∧ FirstLane p (left p S n) len hei k) ∨ (r = -1 ∧ (n = 60 ∨ ∀ k, ¬ FirstLane p (left p S n) len hei k))

set_option maxHeartbeats 1600000 in
set_option maxRecDepth 100000 in
theorem l4Place_any (ao bo : Option Addr) (m mc n c : Nat) (p : Pairs) (S : Nat → Stay) (len hei : Int) (w : World) (hl : p.n = m) (hd : DeckI p n S) (hx : PairsAt w ao p) (hz : StaysAt w bo n S) :
    Calls Try.prog 107 #[.slice ao m mc, .slice bo n c, .int .i64 len, .int .i64 hei] w fun e w' => (∃ r : Int, e = .returned (.int .i64 r) ∧ PlaceIx p n S len hei r) ∧ Below w.heap.size w w' := by
  have HL : Hid (p.n = m) := hl
  have HD : Hid (DeckI p n S) := hd
  have HX : Hid (PairsAt w ao p) := hx
  have HZ : Hid (StaysAt w bo n S) := hz
  have hm4 : m ≤ 4 := by rw [← hl]; exact hd.1.1
  have hn60 : n ≤ 60 := hd.2.1
  clear hl hd hx hz
  by_cases h60 : n = 60
  · have e60 : (n == 60) = true := by simpa using h60
    have e61 : ((n : Int) == 60) = true := by simp; omega
    have H60 : Hid (n = 60) := h60
    clear h60
    go_enter Try.func107, Try.ntmps107
    go_wp2
    go_ret
    exact ⟨⟨_, rfl, .inr ⟨rfl, .inl H60.out⟩⟩, Below.refl _ _⟩
  · have e60 : (n == 60) = false := by simpa using h60
    have e61 : ((n : Int) == 60) = false := by simp; omega
    have H60 : Hid (n ≠ 60) := h60
    clear h60
    go_enter Try.func107, Try.ntmps107
    go_wp2_with fail
    refine (l4Free_any ao bo m mc n c p S _ HL.out HD.out.1 hn60 HD.out.lens HX.out HZ.out).mono ?_
    rintro e w1 ⟨⟨v, rfl, hown⟩, hb1⟩
    obtain ⟨aw, cw, rfl, _⟩ := own_form hown
    have HI : Hid (IntsAt w1 aw m (left p S n)) := own_ints hown
    clear hown
    go_wp2
    go_loopw [10, 11, 20] (fun _ _ i wr => ∃ k : Nat, k ≤ m ∧ i = .int .i64 k ∧ (∀ j : Nat, j < k → ¬ (hei ≤ p.B j ∧ len ≤ left p S n j)) ∧ Below w1.heap.size w1 wr) (fun _ _ i _ => m - (intOf i).toNat)
    case atStart => exact ⟨0, Nat.zero_le _, rfl, fun j hj => by omega, Below.refl _ _⟩
    case round =>
      obtain ⟨k, hk, rfl, hall, hbel⟩ := hrel
      have HA : Hid (∀ j : Nat, j < k → ¬ (hei ≤ p.B j ∧ len ≤ left p S n j)) := hall
      clear hall
      by_cases hlt : k < m
      · obtain ⟨b, off, rfl, h1, h2⟩ := HX.out k (by rw [HL.out]; exact hlt)
        have hb := World.block_lt_of_cell? w _ h1
        have c1 := ((after hb1 hbel).cell (p := ⟨b, off + k * 2, none⟩) hb).trans h1
        have c2 := ((after hb1 hbel).cell (p := ⟨b, off + k * 2 + 1, none⟩) hb).trans h2
        obtain ⟨b3, off3, rfl, h3⟩ := HI.out k hlt
        have hb3 := World.block_lt_of_cell? w1 _ h3
        have c3 : (wr.alloc (.cells #[.int .i64 (p.A k), .int .i64 (p.B k)] 74)).cell? ⟨b3, off3 + k, none⟩ = some (.int .i64 (left p S n k)) := ((push hbel _).cell (p := ⟨b3, off3 + k, none⟩) hb3).trans h3
        have i1 : (0 : Int) ≤ (k : Int) := by omega
        have i2 : (k : Int) < (m : Int) := by omega
        clear h1 h2 h3
        by_cases g1 : hei ≤ p.B k
        · have e1 : decide (hei ≤ p.B k) = true := decide_eq_true g1
          by_cases g2 : len ≤ left p S n k
          · have e2 : decide (len ≤ left p S n k) = true := decide_eq_true g2
            have HF : Hid (FirstLane p (left p S n) len hei k) := ⟨by rw [HL.out]; exact hlt, ⟨g1, g2⟩, HA.out⟩
            clear g1 g2
            go_wp2
            go_ret
            exact ⟨⟨_, rfl, .inl ⟨k, rfl, H60.out, HF.out⟩⟩, after hb1 (push hbel _)⟩
          · have e2 : decide (len ≤ left p S n k) = false := decide_eq_false g2
            have HF : Hid (¬ (hei ≤ p.B k ∧ len ≤ left p S n k)) := fun h => g2 h.2
            clear g1 g2
            go_wp2
            go_roundw
            case rel => exact ⟨k + 1, by omega, by go_num, fun j hj => by
              by_cases e : j = k
              · subst e; exact HF.out
              · exact HA.out j (by omega), push hbel _⟩
            case measure => simp [intOf]; omega
        · have e1 : decide (hei ≤ p.B k) = false := decide_eq_false g1
          have HF : Hid (¬ (hei ≤ p.B k ∧ len ≤ left p S n k)) := fun h => g1 h.1
          clear g1
          go_wp2
          go_roundw
          case rel => exact ⟨k + 1, by omega, by go_num, fun j hj => by
            by_cases e : j = k
            · subst e; exact HF.out
            · exact HA.out j (by omega), push hbel _⟩
          case measure => simp [intOf]; omega
      · obtain rfl : k = m := by omega
        go_wp2
        go_ret
        exact ⟨⟨_, rfl, .inr ⟨rfl, .inr (fun j h => HA.out j (by have := h.1; rw [HL.out] at this; exact this) h.2.1)⟩⟩, after hb1 hbel⟩

set_option maxHeartbeats 3200000 in
set_option maxRecDepth 100000 in
theorem specPlace_any (ao bo : Option Addr) (m mc n c : Nat) (p : Pairs) (S : Nat → Stay) (x len hei : Int) (w : World) (hl : p.n = m) (hm : m ≤ 1048576) (hn : n ≤ 1048576) (hc : n ≤ c) (hx : PairsAt w ao p) (hz : StaysAt w bo n S) (hnil : bo = none → n = 0 ∧ c = 0) :
    Calls Try.prog 31 #[.slice ao m mc, .slice bo n c, .int .i64 x, .int .i64 len, .int .i64 hei] w fun e w' => PlaceRes w' w.heap.size 72 p n S x len hei e ∧ Below w.heap.size w w' := by
  obtain ⟨j0, ji, jz0, jz1, jz2⟩ := info_parts Try.infoStay
  have HX : Hid (PairsAt w ao p) := hx
  have HZ : Hid (StaysAt w bo n S) := hz
  have HL : Hid (p.n = m) := hl
  have HNI : Hid (bo = none → n = 0 ∧ c = 0) := hnil
  clear hx hz hl hnil
  go_enter Try.func31, Try.ntmps31
  go_wp2_with fail
  refine (specDeck_any ao bo m mc n c p S _ HL.out hm hn hc HX.out HZ.out).mono ?_
  rintro e w1 ⟨⟨q, rfl, hq⟩, hb1⟩
  rw [deck_iff] at hq
  cases q with
  | false =>
    have HD : Hid (¬ DeckI p n S) := fun h => by have := hq.2 h; cases this
    clear hq
    go_wp2
    exact bodyPost_ret (v := .tuple #[.slice none 0 0, .int .i64 0, .bool false]) (by simp [results, Try.results31, go_sem]) rfl ⟨placeRes_no (fun k h => HD.out h.1), hb1⟩
  | true =>
    have HD : Hid (DeckI p n S) := hq.1 rfl
    clear hq
    by_cases g1 : In x 1 9999
    · have e1 : decide (In x 1 9999) = true := decide_eq_true g1
      have H1 : Hid (In x 1 9999) := g1
      clear g1
      go_wp2_with (first | (go_at_call 105; refine (l4By_is _ _).mono ?_; rintro e w' ⟨rfl, hw'⟩; have hw' := hw'.symm; subst hw') | (go_at_call 90; refine (l1In_is _ _ _ _).mono ?_; rintro e w' ⟨rfl, hw'⟩; have hw' := hw'.symm; subst hw'))
      refine (l4Has_any bo n c S x _ hn (HZ.out.below hb1)).mono ?_
      rintro e w2 ⟨⟨q2, rfl, hq2⟩, hb2⟩
      have bw2 := after hb1 hb2
      clear hb1 hb2
      cases q2 with
      | true =>
        have HH : Hid (Has (whoS S) n x) := hq2.1 rfl
        clear hq2
        go_wp2
        exact bodyPost_ret (v := .tuple #[.slice none 0 0, .int .i64 0, .bool false]) (by simp [results, Try.results31, go_sem]) rfl ⟨placeRes_no (fun k h => h.2.2.1 HH.out), bw2⟩
      | false =>
        have HH : Hid (¬ Has (whoS S) n x) := fun h => by have := hq2.2 h; cases this
        clear hq2
        by_cases g2 : In len 1 2000
        · have e2 : decide (In len 1 2000) = true := decide_eq_true g2
          have H2 : Hid (In len 1 2000) := g2
          clear g2
          by_cases g3 : In hei 1 500
          · have e3 : decide (In hei 1 500) = true := decide_eq_true g3
            have H3 : Hid (In hei 1 500) := g3
            clear g3
            go_wp2_with (first | (go_at_call 105; refine (l4By_is _ _).mono ?_; rintro e w' ⟨rfl, hw'⟩; have hw' := hw'.symm; subst hw') | (go_at_call 90; refine (l1In_is _ _ _ _).mono ?_; rintro e w' ⟨rfl, hw'⟩; have hw' := hw'.symm; subst hw'))
            refine (l4Place_any ao bo m mc n c p S len hei _ HL.out HD.out (HX.out.below bw2) (HZ.out.below bw2)).mono ?_
            rintro e w3 ⟨⟨r, rfl, hans⟩, hb3⟩
            have bw3 := after bw2 hb3
            clear bw2 hb3
            rcases hans with ⟨k, rfl, h60, hfl⟩ | ⟨rfl, hno⟩
            · have HP : Hid (Places p n S x len hei k) := ⟨HD.out, h60, HH.out, H1.out, H2.out, H3.out, hfl⟩
              have hn60 : n ≤ 60 := HD.out.2.1
              have d0 : decide ((k : Int) < 0) = false := by simp
              clear h60 hfl
              have hs3 := bw3.size
              have ho1 : (w3.alloc (.cells #[] 72)).ownsRow w.heap.size 72 4 (.slice (some ⟨w3.heap.size, 0, none⟩) 0 0) 0 [] := ⟨rfl, .inr ⟨w3.heap.size, 0, #[], rfl, hs3, heap_alloc_new w3 _, Nat.le_refl _, Nat.zero_le _, rfl, rfl⟩⟩
              have HC1 : Hid (∀ ad, bo = some ad → ∀ j u, (stayList S n)[j]? = some u → (w3.alloc (.cells #[] 72)).cell? (ad.add j) = some u) := stays_cells (HZ.out.below (push bw3 _))
              have bw4 := push bw3 (.cells #[] 72)
              go_upto_region 7 with (first | (at_builtin; refine wpList_append_any _ (by rfl) (.tmp 46) (.tmp 47) 65 (by rfl) w.heap.size 72 j0 (.agg #[.int .i64 0, .int .i64 0, .int .i64 0, .int .i64 0]) 4 32 Try.underlying65 ji jz0 jz1 jz2 rfl (by decide) _ 0 [] (by rfl) ho1 bo n c (stayList S n) (by rfl) HNI.out (stayList_length _ _) HC1.out (stayList_one _ _) (by unfold maxLen; omega) (by omega) (by simp; omega) ?_; intro v4 w4 ho4 hg4))
              have bw5 := bw4.grown hg4 (by simp; omega) (fun j hj => (ho1.lt j hj).1)
              rw [Nat.zero_add, List.nil_append] at ho4
              have hs5 := bw5.size
              clear ho1 HC1 bw4 hg4 bw3
              have HC2 : Hid (∀ ad, (some ⟨w4.heap.size, 0, none⟩ : Option Addr) = some ad → ∀ j u, [Value.int .i64 x, .int .i64 (k : Int), .int .i64 len, .int .i64 hei][j]? = some u → (w4.alloc (.cells #[.int .i64 x, .int .i64 (k : Int), .int .i64 len, .int .i64 hei] 72)).cell? (ad.add j) = some u) := by
                intro ad e
                cases e
                exact World.news_of_block (heap_alloc_new w4 _)
              go_wp2_with (first | (at_builtin; refine wpList_append_any _ (by rfl) (.tmp 49) (.tmp 55) 65 (by rfl) w.heap.size 72 j0 (.agg #[.int .i64 0, .int .i64 0, .int .i64 0, .int .i64 0]) 4 32 Try.underlying65 ji jz0 jz1 jz2 rfl (by decide) _ n (stayList S n) (by rfl) (ho4.alloc _) (some ⟨w4.heap.size, 0, none⟩) 1 1 [.int .i64 x, .int .i64 (k : Int), .int .i64 len, .int .i64 hei] (by rfl) (fun h => (by cases h)) (by rfl) HC2.out (by intro u hu; simp at hu; rcases hu with rfl | rfl | rfl | rfl <;> rfl) (by unfold maxLen; omega) (by omega) (by simp; omega) ?_; intro v6 w6 ho6 hg6))
              have bw6 := (push bw5 _).grown hg6 (by simp; omega) (fun j hj => (ho4.lt j hj).1)
              exact bodyPost_ret (v := .tuple #[v6, .int .i64 (k : Int), .bool true]) (by simp [results, Try.results31, go_sem]) rfl ⟨placeRes_yes HP.out (by
                rw [stayList_cat, stayList_succ, show stayList (fun _ => (⟨x, (k : Int), len, hei⟩ : Stay)) 0 = [] from rfl, List.nil_append]
                exact ho6), bw6⟩
            · have HNO : Hid (n = 60 ∨ ∀ k, ¬ FirstLane p (left p S n) len hei k) := hno
              clear hno
              go_wp2
              exact bodyPost_ret (v := .tuple #[.slice none 0 0, .int .i64 0, .bool false]) (by simp [results, Try.results31, go_sem]) rfl ⟨placeRes_no (fun k h => by
                rcases HNO.out with h0 | h0
                · exact h.2.1 h0
                · exact h0 k h.2.2.2.2.2.2), bw3⟩
          · have e3 : decide (In hei 1 500) = false := decide_eq_false g3
            have H3 : Hid (¬ In hei 1 500) := g3
            clear g3
            go_wp2_with (first | (go_at_call 105; refine (l4By_is _ _).mono ?_; rintro e w' ⟨rfl, hw'⟩; have hw' := hw'.symm; subst hw') | (go_at_call 90; refine (l1In_is _ _ _ _).mono ?_; rintro e w' ⟨rfl, hw'⟩; have hw' := hw'.symm; subst hw'))
            exact bodyPost_ret (v := .tuple #[.slice none 0 0, .int .i64 0, .bool false]) (by simp [results, Try.results31, go_sem]) rfl ⟨placeRes_no (fun k h => H3.out h.2.2.2.2.2.1), bw2⟩
        · have e2 : decide (In len 1 2000) = false := decide_eq_false g2
          have H2 : Hid (¬ In len 1 2000) := g2
          clear g2
          go_wp2_with (first | (go_at_call 105; refine (l4By_is _ _).mono ?_; rintro e w' ⟨rfl, hw'⟩; have hw' := hw'.symm; subst hw') | (go_at_call 90; refine (l1In_is _ _ _ _).mono ?_; rintro e w' ⟨rfl, hw'⟩; have hw' := hw'.symm; subst hw'))
          exact bodyPost_ret (v := .tuple #[.slice none 0 0, .int .i64 0, .bool false]) (by simp [results, Try.results31, go_sem]) rfl ⟨placeRes_no (fun k h => H2.out h.2.2.2.2.1), bw2⟩
    · have e1 : decide (In x 1 9999) = false := decide_eq_false g1
      have H1 : Hid (¬ In x 1 9999) := g1
      clear g1
      go_wp2_with (first | (go_at_call 105; refine (l4By_is _ _).mono ?_; rintro e w' ⟨rfl, hw'⟩; have hw' := hw'.symm; subst hw') | (go_at_call 90; refine (l1In_is _ _ _ _).mono ?_; rintro e w' ⟨rfl, hw'⟩; have hw' := hw'.symm; subst hw'))
      exact bodyPost_ret (v := .tuple #[.slice none 0 0, .int .i64 0, .bool false]) (by simp [results, Try.results31, go_sem]) rfl ⟨placeRes_no (fun k h => H1.out h.2.2.2.1), hb1⟩

end Go.Proofs.Ytaalhmaacaahhaa
