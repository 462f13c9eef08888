/-
  OWN TEXT: the contract of the program's PlaceCar.
-/
import Derived.Test.YthhflmafpobgeaaFreeI
import Derived.Test.YthhflmafpobgeaaPlainP
import Derived.Test.YthhflmafpobgeaaConcatStay
namespace Go.Proofs.Ythhflmafpobgeaa
open Go.RowKit

set_option maxHeartbeats 3200000 in
set_option maxRecDepth 100000 in
theorem implPlace_any (ao bo : Option Addr) (m mc n c : Nat) (p : Pairs) (S : Nat → Stay) (x len hei : Int) (w : World) (hl : p.n = m) (hm : m ≤ 1048576) (hn : n ≤ 1048576) (hc : n ≤ c) (hx : PairsAt w ao p) (hz : StaysAt w bo n S) (hnil : bo = none → n = 0 ∧ c = 0) :
    Calls Try.prog 29 #[.slice ao m mc, .slice bo n c, .int .i64 x, .int .i64 len, .int .i64 hei] w fun e w' => PlaceRes w' w.heap.size 72 p n S x len hei e ∧ Below w.heap.size w w' := by
  have HX : Hid (PairsAt w ao p) := hx
  have HZ : Hid (StaysAt w bo n S) := hz
  have HL : Hid (p.n = m) := hl
  have HNI : Hid (bo = none → n = 0 ∧ c = 0) := hnil
  clear hx hz hl hnil
  go_enter Try.func29, Try.ntmps29
  go_wp2_with fail
  refine (freeOnDeck_any ao bo m mc n c p S _ HL.out hm hn hc HX.out HZ.out).mono ?_
  rintro e w1 ⟨hans, hb1⟩
  unfold FreeAns four at hans
  rcases hans with ⟨hd, rfl⟩ | ⟨hd, rfl⟩
  · have HD : Hid (DeckI p n S) := hd
    have hm4 : m ≤ 4 := by rw [← HL.out]; exact hd.1.1
    have hn60 : n ≤ 60 := hd.2.1
    clear hd
    have hb2 := push hb1 (.cells #[.int .i64 (freeAt p S n 0), .int .i64 (freeAt p S n 1), .int .i64 (freeAt p S n 2), .int .i64 (freeAt p S n 3)] 147)
    have hf2 := heap_alloc_new w1 (.cells #[.int .i64 (freeAt p S n 0), .int .i64 (freeAt p S n 1), .int .i64 (freeAt p S n 2), .int .i64 (freeAt p S n 3)] 147)
    by_cases h60 : n = 60
    · have e60 : (n == 60) = true := by simpa using h60
      have e61 : ((n : Int) == 60) = true := by simp; omega
      have H60 : Hid (n = 60) := h60
      clear h60
      go_wp2
      exact bodyPost_ret (v := .tuple #[.slice none 0 0, .int .i64 0, .bool false]) (by simp [results, Try.results29, go_sem]) rfl ⟨placeRes_no (fun k h => h.2.1 H60.out), hb2⟩
    · have e60 : (n == 60) = false := by simpa using h60
      have e61 : ((n : Int) == 60) = false := by simp; omega
      have H60 : Hid (n ≠ 60) := h60
      go_wp2_with fail
      generalize w1.alloc (.cells #[.int .i64 (freeAt p S n 0), .int .i64 (freeAt p S n 1), .int .i64 (freeAt p S n 2), .int .i64 (freeAt p S n 3)] 147) = w2 at hb2 hf2 ⊢
      refine (stayOf_any bo n c S x _ hn (HZ.out.below hb2)).mono ?_
      rintro e w3 ⟨rfl, hb3⟩
      have bw3 := after hb2 hb3
      have hf3 := blk_below hf2 hb3
      clear hb2 hf2 hb3 hb1
      generalize w1.heap.size = f at hf3 ⊢
      by_cases hh : Has (whoS S) n x
      · have e1 : decide (0 ≤ ixAns (whoS S) x n) = true := decide_eq_true ((ixAns_has _ _ _).2 hh)
        have HH : Hid (Has (whoS S) n x) := hh
        clear hh
        go_wp2
        exact bodyPost_ret (v := .tuple #[.slice none 0 0, .int .i64 0, .bool false]) (by simp [results, Try.results29, go_sem]) rfl ⟨placeRes_no (fun k h => h.2.2.1 HH.out), bw3⟩
      · have e1 : decide (0 ≤ ixAns (whoS S) x n) = false := decide_eq_false (fun h => hh ((ixAns_has _ _ _).1 h))
        have HH : Hid (¬ Has (whoS S) n x) := hh
        clear hh h60
        go_wp2
        go_loopw [15, 16, 38] (fun _ _ i wr => ∃ k : Nat, k ≤ m ∧ i = .int .i64 k ∧ (∀ j : Nat, j < k → ¬ Fits p (freeAt p S n) ⟨x, (j : Int), len, hei⟩) ∧ wr.heap[f]? = some (.cells #[.int .i64 (freeAt p S n 0), .int .i64 (freeAt p S n 1), .int .i64 (freeAt p S n 2), .int .i64 (freeAt p S n 3)] 147 (0, 0)) ∧ Below w.heap.size w wr) (fun _ _ i _ => m - (intOf i).toNat)
        case atStart => exact ⟨0, Nat.zero_le _, rfl, fun j hj => by omega, hf3, bw3⟩
        case round =>
          obtain ⟨k, hk, rfl, hall, hfr, hbel⟩ := hrel
          have HA : Hid (∀ j : Nat, j < k → ¬ Fits p (freeAt p S n) ⟨x, (j : Int), len, hei⟩) := hall
          clear hall bw3 hf3
          by_cases hlt : k < m
          · have hbx := push hbel (.cells #[.int .i64 x, .int .i64 (k : Int), .int .i64 len, .int .i64 hei] 72)
            have hbox := heap_alloc_new wr (.cells #[.int .i64 x, .int .i64 (k : Int), .int .i64 len, .int .i64 hei] 72)
            have hfx := blk_alloc hfr (.cells #[.int .i64 x, .int .i64 (k : Int), .int .i64 len, .int .i64 hei] 72)
            have s0 := blk_cell hbox 0 _ rfl
            have s1 := blk_cell hbox 1 _ rfl
            have s2 := blk_cell hbox 2 _ rfl
            have s3 := blk_cell hbox 3 _ rfl
            have f0 := blk_cell hfr 0 _ rfl
            have f1 := blk_cell hfr 1 _ rfl
            have f2 := blk_cell hfr 2 _ rfl
            have f3 := blk_cell hfr 3 _ rfl
            have hlf : f < wr.heap.size := blk_lt hfr
            have hlf2 : ¬ f = wr.heap.size := by omega
            go_upto_region 8 with fail
            generalize hW : wr.alloc (.cells #[.int .i64 x, .int .i64 (k : Int), .int .i64 len, .int .i64 hei] 72) = W at hbox hbx hfx s0 s1 s2 s3 ⊢
            have hsW : wr.heap.size < W.heap.size := blk_lt hbox
            have f0 := blk_cell hfx 0 _ rfl
            have f1 := blk_cell hfx 1 _ rfl
            have f2 := blk_cell hfx 2 _ rfl
            have f3 := blk_cell hfx 3 _ rfl
            clear hW hbel hfr
            go_wp2_with fail
            refine (fitsOn_any ao m mc p (freeAt p S n) x (k : Int) len hei _ HL.out hm4 (HX.out.below hbx)).mono ?_
            rintro e w4 ⟨⟨q, rfl, hq⟩, hb4⟩
            have bw4 := after hbx hb4
            have hf4 := blk_below hfx hb4
            have hbox4 := blk_below hbox hb4
            clear hbx hfx hbox hb4 s0 s1 s2 s3 f0 f1 f2 f3
            cases q with
            | false =>
              have HF : Hid (¬ Fits p (freeAt p S n) ⟨x, (k : Int), len, hei⟩) := fun h => by have := hq.2 h; cases this
              clear hq
              go_wp2
              go_roundw
              case rel => exact ⟨k + 1, by omega, by go_num, fun j hj => by
                by_cases e : j = k
                · subst e; exact HF.out
                · exact HA.out j (by omega), hf4, bw4⟩
              case measure => simp [intOf]; omega
            | true =>
              have HF : Hid (Fits p (freeAt p S n) ⟨x, (k : Int), len, hei⟩) := hq.1 rfl
              clear hq
              have s0 := blk_cell hbox4 0 _ rfl
              have s1 := blk_cell hbox4 1 _ rfl
              have s2 := blk_cell hbox4 2 _ rfl
              have s3 := blk_cell hbox4 3 _ rfl
              have HB : Hid (∀ o o', Below w.heap.size w ((w4.alloc o).alloc o')) := fun o o' => push (push bw4 o) o'
              have HC : Hid (Calls Try.prog 93 #[.slice (some ⟨w4.heap.size + 1, 0, none⟩) 2 2] ((w4.alloc (.cells #[.int .i64 x, .int .i64 (k : Int), .int .i64 len, .int .i64 hei] 72)).alloc (.cells #[.slice bo n c, .slice (some ⟨w4.heap.size, 0, none⟩) 1 1] 65)) fun e w'' => (∃ v, e = .returned v ∧ w''.ownsRow w.heap.size 72 4 v (n + 1) (stayList (stayCat S n (fun _ => ⟨x, (k : Int), len, hei⟩)) (n + 1))) ∧ Below w.heap.size w w'') := by
                have b1 : ((w4.alloc (.cells #[.int .i64 x, .int .i64 (k : Int), .int .i64 len, .int .i64 hei] 72)).alloc (.cells #[.slice bo n c, .slice (some ⟨w4.heap.size, 0, none⟩) 1 1] 65)).heap[w4.heap.size + 1]? = some (.cells #[.slice bo n c, .slice (some ⟨w4.heap.size, 0, none⟩) 1 1] 65 (0, 0)) := by simpa using heap_alloc_new (w4.alloc _) _
                have b0 : ((w4.alloc (.cells #[.int .i64 x, .int .i64 (k : Int), .int .i64 len, .int .i64 hei] 72)).alloc (.cells #[.slice bo n c, .slice (some ⟨w4.heap.size, 0, none⟩) 1 1] 65)).heap[w4.heap.size]? = some (.cells #[.int .i64 x, .int .i64 (k : Int), .int .i64 len, .int .i64 hei] 72 (0, 0)) := blk_alloc (heap_alloc_new w4 _) _
                refine (concatStay (w4.heap.size + 1) bo (some ⟨w4.heap.size, 0, none⟩) n 1 c 1 S (fun _ => ⟨x, (k : Int), len, hei⟩) _ hn (by omega) b1 (HZ.out.below (HB.out _ _)) ?_ HNI.out (fun h => by cases h)).mono ?_
                · intro i hi
                  obtain rfl : i = 0 := by omega
                  exact ⟨w4.heap.size, 0, rfl, blk_cell b0 0 _ rfl, blk_cell b0 1 _ rfl, blk_cell b0 2 _ rfl, blk_cell b0 3 _ rfl⟩
                · rintro e w5 ⟨⟨v, rfl, ho⟩, hb5⟩
                  exact ⟨⟨v, rfl, own_base ho (HB.out _ _).size⟩, after (HB.out _ _) hb5⟩
              go_wp2_with (first | (go_at_call 93; refine Calls.mono HC.out ?_; rintro e w5 ⟨⟨v, rfl, ho⟩, hb5⟩))
              exact bodyPost_ret (v := .tuple #[v, .int .i64 (k : Int), .bool true]) (by simp [results, Try.results29, go_sem]) rfl ⟨placeRes_yes (places_fit HD.out H60.out HH.out (by rw [HL.out]; exact hlt) HF.out HA.out) ho, hb5⟩
          · obtain rfl : k = m := by omega
            go_wp2
            exact bodyPost_ret (v := .tuple #[.slice none 0 0, .int .i64 0, .bool false]) (by simp [results, Try.results29, go_sem]) rfl ⟨placeRes_no (places_none (fun j hj => HA.out j (by rw [HL.out] at hj; exact hj))), hbel⟩
  · have HD : Hid (¬ DeckI p n S) := hd
    clear hd
    go_wp2
    exact bodyPost_ret (v := .tuple #[.slice none 0 0, .int .i64 0, .bool false]) (by simp [results, Try.results29, go_sem]) rfl ⟨placeRes_no (fun k h => HD.out h.1), push hb1 _⟩

end Go.Proofs.Ythhflmafpobgeaa
