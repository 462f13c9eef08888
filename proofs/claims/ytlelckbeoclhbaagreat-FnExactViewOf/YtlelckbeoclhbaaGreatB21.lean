/-
  OWN TEXT: PartyI, ImplV, BookI, ImplW.
-/
import Derived.Deep.DeepCutAuto
import Derived.Deep.LoopGhost
import Derived.Test.YtlelckbeoclhbaaGreatB20
import Derived.Test.YtlelckbeoclhbaaGreatB17
set_option maxHeartbeats 12800000
set_option maxRecDepth 100000
namespace Go.Proofs.YtlelckbeoclhbaaGreat
open Go.RowKit
theorem implParty_any (pe len hei cl : Int) (all : Bool) (be : Int) (w : World) :
    Calls Tryz.prog 151 #[.agg #[.int .i64 pe, .int .i64 len, .int .i64 hei, .int .i64 cl, .bool all, .int .i64 be]] w fun e w' => SaysIf (PartyOk ⟨pe, len, hei, cl, all, be⟩) e ∧ Below w.heap.size w w' := by
  obtain ⟨c1, hc1⟩ : ∃ c, c = decide (In pe 1 20) := ⟨_, rfl⟩
  obtain ⟨c2, hc2⟩ : ∃ c, c = decide (¬ (len = 0 ∧ hei = 0)) := ⟨_, rfl⟩
  obtain ⟨c3, hc3⟩ : ∃ c, c = decide (In len 1 2000 ∧ In hei 1 500) := ⟨_, rfl⟩
  obtain ⟨c4, hc4⟩ : ∃ c, c = decide (¬ (cl = 0 ∧ all = false ∧ be = 0)) := ⟨_, rfl⟩
  obtain ⟨c5, hc5⟩ : ∃ c, c = decide (CabOk cl all be) := ⟨_, rfl⟩
  have H1 : Hid (c1 = decide (In pe 1 20)) := hc1
  have H2 : Hid (c2 = decide (¬ (len = 0 ∧ hei = 0))) := hc2
  have H3 : Hid (c3 = decide (In len 1 2000 ∧ In hei 1 500)) := hc3
  have H4 : Hid (c4 = decide (¬ (cl = 0 ∧ all = false ∧ be = 0))) := hc4
  have H5 : Hid (c5 = decide (CabOk cl all be)) := hc5
  have HP : Hid (PartyOk ⟨pe, len, hei, cl, all, be⟩ ↔ c1 = true ∧ (c2 = false ∨ c3 = true) ∧ (c4 = false ∨ c5 = true)) := by
    show PartyOk ⟨pe, len, hei, cl, all, be⟩ ↔ c1 = true ∧ (c2 = false ∨ c3 = true) ∧ (c4 = false ∨ c5 = true)
    rw [hc1, hc2, hc3, hc4, hc5]
    unfold PartyOk CarOk
    simp only [decide_eq_true_eq, decide_eq_false_iff_not, Classical.not_not]
  clear hc1 hc2 hc3 hc4 hc5
  go_enter Tryz.func151, Tryz.ntmps151
  go_wp2_with fail
  have hb0 : Below w.heap.size w (w.alloc (.cells #[.int .i64 pe, .int .i64 len, .int .i64 hei, .int .i64 cl, .bool all, .int .i64 be] 70)) := push (Below.refl _ _) _
  have b0 := heap_alloc_new w (.cells #[.int .i64 pe, .int .i64 len, .int .i64 hei, .int .i64 cl, .bool all, .int .i64 be] 70)
  generalize w.alloc (.cells #[.int .i64 pe, .int .i64 len, .int .i64 hei, .int .i64 cl, .bool all, .int .i64 be] 70) = W at hb0 b0 ⊢
  have y0 := blk_cell b0 0 _ rfl
  have y1 := blk_cell b0 1 _ rfl
  have y2 := blk_cell b0 2 _ rfl
  have y3 := blk_cell b0 3 _ rfl
  have y4 := blk_cell b0 4 _ rfl
  have y5 := blk_cell b0 5 _ rfl
  refine (within_is _ _ _ _).mono ?_
  rw [← H1.out]
  rintro e w' ⟨rfl, hw'⟩
  have hw' := hw'.symm
  subst hw'
  cases c1 with
  | false =>
    have HN : Hid (¬ PartyOk ⟨pe, len, hei, cl, all, be⟩) := fun h => by have := (HP.out.1 h).1; cases this
    clear HP
    go_wp2
    go_ret
    exact ⟨says_no HN.out, hb0⟩
  | true =>
    go_wp2_with fail
    refine (asksCar_any pe len hei cl all be _).mono ?_
    rw [← H2.out]
    rintro e w1 ⟨rfl, hb1⟩
    have b1 := blk_below b0 hb1
    have bw1 := after hb0 hb1
    clear y0 y1 y2 y3 y4 y5 hb0 b0 hb1
    have y1 := blk_cell b1 1 _ rfl
    have y2 := blk_cell b1 2 _ rfl
    cases c2 with
    | false =>
      have y0 := blk_cell b1 0 _ rfl
      have y3 := blk_cell b1 3 _ rfl
      have y4 := blk_cell b1 4 _ rfl
      have y5 := blk_cell b1 5 _ rfl
      go_wp2_with fail
      refine (asksCabin_any pe len hei cl all be _).mono ?_
      rw [← H4.out]
      rintro e w2 ⟨rfl, hb2⟩
      have b2 := blk_below b1 hb2
      have bw2 := after bw1 hb2
      clear y0 y1 y2 y3 y4 y5 bw1 b1 hb2
      have y3 := blk_cell b2 3 _ rfl
      have y4 := blk_cell b2 4 _ rfl
      have y5 := blk_cell b2 5 _ rfl
      cases c4 with
      | false =>
        go_wp2
        go_ret
        exact ⟨says_yes (HP.out.2 (by simp)), bw2⟩
      | true =>
        go_wp2_with fail
        refine (wish_is _ _ _ _).mono ?_
        rw [← H5.out]
        rintro e w' ⟨rfl, hw'⟩
        have hw' := hw'.symm
        subst hw'
        cases c5 with
        | true =>
          go_wp2
          go_ret
          exact ⟨says_yes (HP.out.2 (by simp)), bw2⟩
        | false =>
          have HN : Hid (¬ PartyOk ⟨pe, len, hei, cl, all, be⟩) := fun h => by have h := HP.out.1 h; simp at h
          clear HP
          go_wp2
          go_ret
          exact ⟨says_no HN.out, bw2⟩
    | true =>
      go_wp2_with fail
      refine (isCar_is _ _ _).mono ?_
      rw [← H3.out]
      rintro e w' ⟨rfl, hw'⟩
      have hw' := hw'.symm
      subst hw'
      cases c3 with
      | false =>
        have HN : Hid (¬ PartyOk ⟨pe, len, hei, cl, all, be⟩) := fun h => by have h := HP.out.1 h; simp at h
        clear HP
        go_wp2
        go_ret
        exact ⟨says_no HN.out, bw1⟩
      | true =>
        have y0 := blk_cell b1 0 _ rfl
        have y3 := blk_cell b1 3 _ rfl
        have y4 := blk_cell b1 4 _ rfl
        have y5 := blk_cell b1 5 _ rfl
        go_wp2_with fail
        refine (asksCabin_any pe len hei cl all be _).mono ?_
        rw [← H4.out]
        rintro e w2 ⟨rfl, hb2⟩
        have b2 := blk_below b1 hb2
        have bw2 := after bw1 hb2
        clear y0 y1 y2 y3 y4 y5 bw1 b1 hb2
        have y3 := blk_cell b2 3 _ rfl
        have y4 := blk_cell b2 4 _ rfl
        have y5 := blk_cell b2 5 _ rfl
        cases c4 with
        | false =>
          go_wp2
          go_ret
          exact ⟨says_yes (HP.out.2 (by simp)), bw2⟩
        | true =>
          go_wp2_with fail
          refine (wish_is _ _ _ _).mono ?_
          rw [← H5.out]
          rintro e w' ⟨rfl, hw'⟩
          have hw' := hw'.symm
          subst hw'
          cases c5 with
          | true =>
            go_wp2
            go_ret
            exact ⟨says_yes (HP.out.2 (by simp)), bw2⟩
          | false =>
            have HN : Hid (¬ PartyOk ⟨pe, len, hei, cl, all, be⟩) := fun h => by have h := HP.out.1 h; simp at h
            clear HP
            go_wp2
            go_ret
            exact ⟨says_no HN.out, bw2⟩
end Go.Proofs.YtlelckbeoclhbaaGreat

namespace Go.Proofs.YtlelckbeoclhbaaGreat
open Go.RowKit
theorem isBy_is (x : Int) (w : World) :
    Calls Tryz.prog 146 #[.int .i64 x] w fun e w' => e = .returned (.bool (decide (In x 1 9999))) ∧ w' = w := by
  go_enter Tryz.func146, Tryz.ntmps146
  go_wp2_with (first | (go_at_call 143; refine (within_is _ _ _ _).mono ?_; rintro e w' ⟨rfl, rfl⟩))
  go_ret
  exact ⟨rfl, rfl⟩
end Go.Proofs.YtlelckbeoclhbaaGreat

namespace Go.Proofs.YtlelckbeoclhbaaGreat
open Go.RowKit
theorem isTime_is (x : Int) (w : World) :
    Calls Tryz.prog 153 #[.int .i64 x] w fun e w' => e = .returned (.bool (decide (In x 0 10000))) ∧ w' = w := by
  go_enter Tryz.func153, Tryz.ntmps153
  go_wp2_with (first | (go_at_call 143; refine (within_is _ _ _ _).mono ?_; rintro e w' ⟨rfl, rfl⟩))
  go_ret
  exact ⟨rfl, rfl⟩
theorem goodWhere_is (a b c : Bool) (w : World) :
    Calls Tryz.prog 152 #[.bool a, .bool b, .bool c] w fun e w' => e = .returned (.bool (if a then b else c)) ∧ w' = w := by
  cases a with
  | true =>
    go_enter Tryz.func152, Tryz.ntmps152
    go_wp2
    go_ret
    exact ⟨rfl, rfl⟩
  | false =>
    go_enter Tryz.func152, Tryz.ntmps152
    go_wp2
    go_ret
    exact ⟨rfl, rfl⟩
def whoB (S : Nat → Book) (j : Nat) : Int := (S j).who
theorem isNewBy1_any (b : Book) (alg : Option Addr) (clg : Nat) (x : Int) (pa : Nat) (w : World) (hp : w.cell? ⟨pa, 0, none⟩ = some (.int .i64 x)) :
    Calls Tryz.prog 148 #[.agg #[.int .i64 b.name, .int .i64 b.who, .string b.own, .slice alg b.lgn clg, .int .i64 b.pe, .int .i64 b.len, .int .i64 b.hei, .int .i64 b.cl, .bool b.all, .int .i64 b.be, .int .i64 b.state, .int .i64 b.unt, .int .i64 b.price], .pointer (some ⟨pa, 0, none⟩)] w fun e w' => e = .returned (.bool (b.who == x)) ∧ Below w.heap.size w w' := by
  have hlt := World.block_lt_of_cell? w _ hp
  have hne : ¬ pa = w.heap.size := by have : pa < w.heap.size := hlt; omega
  go_enter Tryz.func148, Tryz.ntmps148
  go_wp2
  go_ret
  exact ⟨rfl, push (Below.refl _ _) _⟩
theorem indexBook_any (ao : Option Addr) (n c : Nat) (S : Nat → Book) (x : Int) (pa : Nat) (w : World) (hn : n ≤ 1048576) (hz : BooksAt w ao n S) (hp : w.cell? ⟨pa, 0, none⟩ = some (.int .i64 x)) :
    Calls Tryz.prog 169 #[.slice ao n c, .func (.func 148) #[] #[.pointer (some ⟨pa, 0, none⟩)]] w fun e w' => e = .returned (.int .i64 (ixAns (whoB S) x n)) ∧ Below w.heap.size w w' := by
  have hlt := World.block_lt_of_cell? w _ hp
  obtain ⟨C, hC, hI⟩ := hz
  have HC : Hid (RecsAt w ao n 13 C) := hC
  have HI : Hid (∀ k, k < n → Book.Is w (C k) (S k)) := hI
  clear hC hI
  go_enter Tryz.func169, Tryz.ntmps169
  go_wp2
  go_loopw [5, 8] (fun _ i wr => ∃ k : Nat, k ≤ n ∧ i = .int .i64 k ∧ (∀ j, j < k → whoB S j ≠ x) ∧ Below w.heap.size w wr) (fun _ i _ => n - (intOf i).toNat)
  case atStart => exact ⟨0, Nat.zero_le _, rfl, fun j hj => by omega, Below.refl _ _⟩
  case round =>
    obtain ⟨k, hk, rfl, hall, hbel⟩ := hrel
    have HA : Hid (∀ j, j < k → whoB S j ≠ x) := hall
    clear hall
    by_cases hlt2 : k < n
    · obtain ⟨bb, bo, rfl, hc⟩ := HC.out k hlt2
      obtain ⟨alg, clg, eC, _, _⟩ := HI.out k hlt2
      obtain ⟨b, hb⟩ : ∃ b, b = S k := ⟨_, rfl⟩
      rw [← hb] at eC
      have HB : Hid (b = S k) := hb
      have hltb : bb < w.heap.size := World.block_lt_of_cell? w _ (hc 0 (by decide))
      have c0 : wr.cell? ⟨bb, bo + k * 13, none⟩ = some (.int .i64 b.name) := (hbel.cell (p := ⟨bb, bo + k * 13, none⟩) hltb).trans (by have := hc 0 (by decide); rw [eC] at this; exact this)
      have c1 : wr.cell? ⟨bb, bo + k * 13 + 1, none⟩ = some (.int .i64 b.who) := (hbel.cell (p := ⟨bb, bo + k * 13 + 1, none⟩) hltb).trans (by have := hc 1 (by decide); rw [eC] at this; exact this)
      have c2 : wr.cell? ⟨bb, bo + k * 13 + 2, none⟩ = some (.string b.own) := (hbel.cell (p := ⟨bb, bo + k * 13 + 2, none⟩) hltb).trans (by have := hc 2 (by decide); rw [eC] at this; exact this)
      have c3 : wr.cell? ⟨bb, bo + k * 13 + 3, none⟩ = some (.slice alg b.lgn clg) := (hbel.cell (p := ⟨bb, bo + k * 13 + 3, none⟩) hltb).trans (by have := hc 3 (by decide); rw [eC] at this; exact this)
      have c4 : wr.cell? ⟨bb, bo + k * 13 + 4, none⟩ = some (.int .i64 b.pe) := (hbel.cell (p := ⟨bb, bo + k * 13 + 4, none⟩) hltb).trans (by have := hc 4 (by decide); rw [eC] at this; exact this)
      have c5 : wr.cell? ⟨bb, bo + k * 13 + 5, none⟩ = some (.int .i64 b.len) := (hbel.cell (p := ⟨bb, bo + k * 13 + 5, none⟩) hltb).trans (by have := hc 5 (by decide); rw [eC] at this; exact this)
      have c6 : wr.cell? ⟨bb, bo + k * 13 + 6, none⟩ = some (.int .i64 b.hei) := (hbel.cell (p := ⟨bb, bo + k * 13 + 6, none⟩) hltb).trans (by have := hc 6 (by decide); rw [eC] at this; exact this)
      have c7 : wr.cell? ⟨bb, bo + k * 13 + 7, none⟩ = some (.int .i64 b.cl) := (hbel.cell (p := ⟨bb, bo + k * 13 + 7, none⟩) hltb).trans (by have := hc 7 (by decide); rw [eC] at this; exact this)
      have c8 : wr.cell? ⟨bb, bo + k * 13 + 8, none⟩ = some (.bool b.all) := (hbel.cell (p := ⟨bb, bo + k * 13 + 8, none⟩) hltb).trans (by have := hc 8 (by decide); rw [eC] at this; exact this)
      have c9 : wr.cell? ⟨bb, bo + k * 13 + 9, none⟩ = some (.int .i64 b.be) := (hbel.cell (p := ⟨bb, bo + k * 13 + 9, none⟩) hltb).trans (by have := hc 9 (by decide); rw [eC] at this; exact this)
      have c10 : wr.cell? ⟨bb, bo + k * 13 + 10, none⟩ = some (.int .i64 b.state) := (hbel.cell (p := ⟨bb, bo + k * 13 + 10, none⟩) hltb).trans (by have := hc 10 (by decide); rw [eC] at this; exact this)
      have c11 : wr.cell? ⟨bb, bo + k * 13 + 11, none⟩ = some (.int .i64 b.unt) := (hbel.cell (p := ⟨bb, bo + k * 13 + 11, none⟩) hltb).trans (by have := hc 11 (by decide); rw [eC] at this; exact this)
      have c12 : wr.cell? ⟨bb, bo + k * 13 + 12, none⟩ = some (.int .i64 b.price) := (hbel.cell (p := ⟨bb, bo + k * 13 + 12, none⟩) hltb).trans (by have := hc 12 (by decide); rw [eC] at this; exact this)
      have HP : Hid (wr.cell? ⟨pa, 0, none⟩ = some (.int .i64 x)) := (hbel.cell (p := ⟨pa, 0, none⟩) hlt).trans hp
      clear hc eC hb hp
      by_cases he : whoB S k = x
      · have e1 : (b.who == x) = true := by have he := he; unfold whoB at he; rw [← HB.out] at he; simpa using he
        have HF : Hid (ixAns (whoB S) x n = k) := by
          have : ixOf (whoB S) x n = k := ixOf_is hlt2 he HA.out
          unfold ixAns Hid
          rw [this, if_pos hlt2]
        clear he
        go_wp2_with (first | (go_at_call 148; refine (isNewBy1_any b alg clg x pa _ HP.out).mono ?_; rintro e w2 ⟨rfl, hb2⟩))
        go_ret
        exact ⟨by rw [HF.out]; rfl, after hbel hb2⟩
      · have e1 : (b.who == x) = false := by have he := he; unfold whoB at he; rw [← HB.out] at he; simpa using he
        have HE : Hid (whoB S k ≠ x) := he
        clear he
        go_wp2_with (first | (go_at_call 148; refine (isNewBy1_any b alg clg x pa _ HP.out).mono ?_; rintro e w2 ⟨rfl, hb2⟩))
        go_roundw
        case rel => exact ⟨k + 1, by omega, by go_num, fun j hj => by
          by_cases e : j = k
          · subst e; exact HE.out
          · exact HA.out j (by omega), after hbel hb2⟩
        case measure => simp [intOf]; omega
    · obtain rfl : k = n := by omega
      have HF : Hid (ixAns (whoB S) x k = -1) := ixAns_no (not_has HA.out)
      go_wp2
      go_ret
      exact ⟨by rw [HF.out]; rfl, hbel⟩
theorem hasBook_any (ao : Option Addr) (n c : Nat) (S : Nat → Book) (x : Int) (pa : Nat) (w : World) (hn : n ≤ 1048576) (hz : BooksAt w ao n S) (hp : w.cell? ⟨pa, 0, none⟩ = some (.int .i64 x)) :
    Calls Tryz.prog 147 #[.slice ao n c, .func (.func 148) #[] #[.pointer (some ⟨pa, 0, none⟩)]] w fun e w' => SaysIf (Has (whoB S) n x) e ∧ Below w.heap.size w w' := by
  obtain ⟨r, hr⟩ : ∃ r, r = ixAns (whoB S) x n := ⟨_, rfl⟩
  have HR : Hid (r = ixAns (whoB S) x n) := hr
  clear hr
  go_enter Tryz.func147, Tryz.ntmps147
  go_wp2_with fail
  refine (indexBook_any ao n c S x pa _ hn hz hp).mono ?_
  rw [← HR.out]
  rintro e w1 ⟨rfl, hb1⟩
  by_cases h : Has (whoB S) n x
  · have e1 : decide (0 ≤ r) = true := by rw [HR.out]; unfold ixAns; rw [if_pos ((has_iff _ _ _).1 h)]; simp
    have HH : Hid (Has (whoB S) n x) := h
    clear h
    go_wp2
    go_ret
    exact ⟨says_yes HH.out, hb1⟩
  · have e1 : decide (0 ≤ r) = false := by rw [HR.out, ixAns_no h]; rfl
    have HH : Hid (¬ Has (whoB S) n x) := h
    clear h
    go_wp2
    go_ret
    exact ⟨says_no HH.out, hb1⟩
theorem isNewBy_any (ao : Option Addr) (n c : Nat) (S : Nat → Book) (x : Int) (w : World) (hn : n ≤ 1048576) (hz : BooksAt w ao n S) :
    Calls Tryz.prog 110 #[.slice ao n c, .int .i64 x] w fun e w' => SaysIf (In x 1 9999 ∧ ¬ Has (whoB S) n x) e ∧ Below w.heap.size w w' := by
  have hb0 : Below w.heap.size w (w.alloc (.cells #[.int .i64 x] 3)) := push (Below.refl _ _) _
  have HZ : Hid (BooksAt (w.alloc (.cells #[.int .i64 x] 3)) ao n S) := hz.below hb0
  have hp := blk_cell (heap_alloc_new w (.cells #[.int .i64 x] 3)) 0 _ rfl
  have hmf : ∀ (fn : Fn) (first cap : Array Value) (w : World), (Instr.makeFunc fn first cap).run Tryz.prog w = .ok (.func fn first cap) w := fun _ _ _ _ => rfl
  go_enter Tryz.func110, Tryz.ntmps110
  go_wp2_with fail
  obtain ⟨t, ht⟩ : ∃ t, t = decide (In x 1 9999) := ⟨_, rfl⟩
  refine (isBy_is _ _).mono ?_
  rw [← ht]
  have HT : Hid (t = true ↔ In x 1 9999) := by show t = true ↔ In x 1 9999; rw [ht, decide_eq_true_eq]
  clear ht
  rintro e v ⟨rfl, hv⟩
  have hv := hv.symm
  subst hv
  cases t with
  | false =>
    have HN : Hid (¬ (In x 1 9999 ∧ ¬ Has (whoB S) n x)) := fun h => by have := HT.out.2 h.1; cases this
    go_wp2
    go_ret
    exact ⟨says_no HN.out, hb0⟩
  | true =>
    have HI : Hid (In x 1 9999) := HT.out.1 rfl
    clear HT
    go_wp2_with fail
    refine (hasBook_any ao n c S x _ _ hn HZ.out hp).mono ?_
    rintro e w1 ⟨⟨u, rfl, hu⟩, hb1⟩
    have HU : Hid (u = true ↔ Has (whoB S) n x) := hu
    clear hu
    cases u with
    | true =>
      have HN : Hid (¬ (In x 1 9999 ∧ ¬ Has (whoB S) n x)) := fun h => h.2 (HU.out.1 rfl)
      go_wp2
      go_ret
      exact ⟨says_no HN.out, after hb0 hb1⟩
    | false =>
      have HN : Hid (In x 1 9999 ∧ ¬ Has (whoB S) n x) := ⟨HI.out, fun h => by have := HU.out.2 h; cases this⟩
      go_wp2
      go_ret
      exact ⟨says_yes HN.out, after hb0 hb1⟩
def BookG (N : Nat) (S : Nat → Sail) (b : Book) : Prop := IsName b.own ∧ LegsOk N S b.lgn b.lg ∧ PartyOk b.p ∧ In b.state 1 4 ∧ UntilB b ∧ In b.price 0 1000000
theorem goodBooking_any (N : Nat) (S : Nat → Sail) (asa : Option Addr) (csa : Nat) (b : Book) (alg : Option Addr) (clg : Nat) (w : World) (hN : N ≤ 1048576) (hs : ShortAll N S 1048576) (hsb : Book.Short b 1048576) (hT : GoodTab N S) (hx : SailsAt w asa N S) (hy : IntsAt w alg b.lgn b.lg) :
    Calls Tryz.prog 111 #[.slice asa N csa, .agg #[.int .i64 b.name, .int .i64 b.who, .string b.own, .slice alg b.lgn clg, .int .i64 b.pe, .int .i64 b.len, .int .i64 b.hei, .int .i64 b.cl, .bool b.all, .int .i64 b.be, .int .i64 b.state, .int .i64 b.unt, .int .i64 b.price]] w fun e w' => SaysIf (BookG N S b) e ∧ Below w.heap.size w w' := by
  have HSA : Hid (SailsAt w asa N S) := hx
  have HLG : Hid (IntsAt w alg b.lgn b.lg) := hy
  have HSH : Hid (ShortAll N S 1048576) := hs
  have HSB : Hid (Book.Short b 1048576) := hsb
  have HT : Hid (GoodTab N S) := hT
  clear hx hy hs hsb hT
  obtain ⟨K, hK⟩ : ∃ K, K = decide (b.state = 1 ∨ b.state = 4) := ⟨_, rfl⟩
  obtain ⟨T, hT⟩ : ∃ T, T = decide (In b.unt 0 10000) := ⟨_, rfl⟩
  obtain ⟨Z, hZ⟩ : ∃ Z, (b.unt == 0) = Z := ⟨_, rfl⟩
  have HK : Hid (K = decide (b.state = 1 ∨ b.state = 4)) := hK
  have HT2 : Hid (T = decide (In b.unt 0 10000)) := hT
  have HU : Hid ((if K then T else Z) = true ↔ UntilB b) := by
    show (if K then T else Z) = true ↔ UntilB b
    unfold UntilB
    by_cases c : b.state = 1 ∨ b.state = 4
    · rw [hK, decide_eq_true c, if_pos rfl, if_pos c, hT, decide_eq_true_eq]
    · rw [hK, decide_eq_false c, if_neg (by decide), if_neg c, ← hZ, beq_iff_eq]
  clear hK hT
  have hb0 : Below w.heap.size w (w.alloc (.cells #[.int .i64 b.name, .int .i64 b.who, .string b.own, .slice alg b.lgn clg, .int .i64 b.pe, .int .i64 b.len, .int .i64 b.hei, .int .i64 b.cl, .bool b.all, .int .i64 b.be, .int .i64 b.state, .int .i64 b.unt, .int .i64 b.price] 72)) := push (Below.refl _ _) _
  have b0 := heap_alloc_new w (.cells #[.int .i64 b.name, .int .i64 b.who, .string b.own, .slice alg b.lgn clg, .int .i64 b.pe, .int .i64 b.len, .int .i64 b.hei, .int .i64 b.cl, .bool b.all, .int .i64 b.be, .int .i64 b.state, .int .i64 b.unt, .int .i64 b.price] 72)
  go_enter Tryz.func111, Tryz.ntmps111
  go_upto_region 1 with fail
  generalize hBx : w.heap.size = Bx at b0 ⊢
  generalize w.alloc (.cells #[.int .i64 b.name, .int .i64 b.who, .string b.own, .slice alg b.lgn clg, .int .i64 b.pe, .int .i64 b.len, .int .i64 b.hei, .int .i64 b.cl, .bool b.all, .int .i64 b.be, .int .i64 b.state, .int .i64 b.unt, .int .i64 b.price] 72) = W at hb0 b0 ⊢
  have y10 := blk_cell b0 10 _ rfl
  go_cut [5] (fun v wx => v = .bool K ∧ wx = W)
  case first =>
    by_cases s1 : b.state = 1
    · have e1 : (b.state == 1) = true := by simpa using s1
      have HKT : Hid (K = true) := by show K = true; rw [HK.out]; exact decide_eq_true (.inl s1)
      clear s1
      go_wp2
      go_meet
      exact ⟨by rw [HKT.out], rfl⟩
    · have e1 : (b.state == 1) = false := by simpa using s1
      by_cases s4 : b.state = 4
      · have e4 : (b.state == 4) = true := by simpa using s4
        have HKT : Hid (K = true) := by show K = true; rw [HK.out]; exact decide_eq_true (.inr s4)
        clear s1 s4
        go_wp2
        go_meet
        exact ⟨by rw [HKT.out], rfl⟩
      · have e4 : (b.state == 4) = false := by simpa using s4
        have HKT : Hid (K = false) := by show K = false; rw [HK.out]; exact decide_eq_false (by intro h; rcases h with h | h; exact s1 h; exact s4 h)
        clear s1 s4
        go_wp2
        go_meet
        exact ⟨by rw [HKT.out], rfl⟩
  case rest =>
  obtain ⟨rfl, hwc⟩ := hcut
  have hwc := hwc.symm
  subst hwc
  clear y10 HK
  have hBW : Bx < W.heap.size := blk_lt b0
  have z0 : ∀ g : Grown W, g.val.cell? ⟨Bx, 0, none⟩ = some (.int .i64 b.name) := fun g => (g.bel.cell hBW).trans (blk_cell b0 0 _ rfl)
  have z1 : ∀ g : Grown W, g.val.cell? ⟨Bx, 1, none⟩ = some (.int .i64 b.who) := fun g => (g.bel.cell hBW).trans (blk_cell b0 1 _ rfl)
  have z2 : ∀ g : Grown W, g.val.cell? ⟨Bx, 2, none⟩ = some (.string b.own) := fun g => (g.bel.cell hBW).trans (blk_cell b0 2 _ rfl)
  have z3 : ∀ g : Grown W, g.val.cell? ⟨Bx, 3, none⟩ = some (.slice alg b.lgn clg) := fun g => (g.bel.cell hBW).trans (blk_cell b0 3 _ rfl)
  have z4 : ∀ g : Grown W, g.val.cell? ⟨Bx, 4, none⟩ = some (.int .i64 b.pe) := fun g => (g.bel.cell hBW).trans (blk_cell b0 4 _ rfl)
  have z5 : ∀ g : Grown W, g.val.cell? ⟨Bx, 5, none⟩ = some (.int .i64 b.len) := fun g => (g.bel.cell hBW).trans (blk_cell b0 5 _ rfl)
  have z6 : ∀ g : Grown W, g.val.cell? ⟨Bx, 6, none⟩ = some (.int .i64 b.hei) := fun g => (g.bel.cell hBW).trans (blk_cell b0 6 _ rfl)
  have z7 : ∀ g : Grown W, g.val.cell? ⟨Bx, 7, none⟩ = some (.int .i64 b.cl) := fun g => (g.bel.cell hBW).trans (blk_cell b0 7 _ rfl)
  have z8 : ∀ g : Grown W, g.val.cell? ⟨Bx, 8, none⟩ = some (.bool b.all) := fun g => (g.bel.cell hBW).trans (blk_cell b0 8 _ rfl)
  have z9 : ∀ g : Grown W, g.val.cell? ⟨Bx, 9, none⟩ = some (.int .i64 b.be) := fun g => (g.bel.cell hBW).trans (blk_cell b0 9 _ rfl)
  have z10 : ∀ g : Grown W, g.val.cell? ⟨Bx, 10, none⟩ = some (.int .i64 b.state) := fun g => (g.bel.cell hBW).trans (blk_cell b0 10 _ rfl)
  have z11 : ∀ g : Grown W, g.val.cell? ⟨Bx, 11, none⟩ = some (.int .i64 b.unt) := fun g => (g.bel.cell hBW).trans (blk_cell b0 11 _ rfl)
  have z12 : ∀ g : Grown W, g.val.cell? ⟨Bx, 12, none⟩ = some (.int .i64 b.price) := fun g => (g.bel.cell hBW).trans (blk_cell b0 12 _ rfl)
  clear b0 hBx
  go_upto_region 2 with fail
  by_cases p1 : IsName b.own
  case neg =>
    have P1 : Hid (¬ (IsName b.own)) := p1
    have D1 : Hid (decide (IsName b.own) = false) := decide_eq_false p1
    clear p1
    refine wp_region_grow (by kernel_rfl) (by kernel_rfl) ?_
    repeat (first | go_big_quiet_skip | (go_big_quiet_want; go_big_quiet_op; first | go_big_quiet_on | (apply Exists.intro; refine ⟨fun g => ?_, ?_⟩; (focus (go_at_call 149; refine grown_call (v := .bool false) ((isName_is _ _ (by have := HSB.out.1; omega)).mono ?_); rintro e w2 ⟨rfl, rfl⟩; exact ⟨by rw [D1.out], Below.refl _ _⟩)); go_big_quiet_on) | (apply Exists.intro; refine ⟨fun g => ?_, ?_⟩; (focus (go_at_call 153; refine grown_call (v := .bool T) ((isTime_is b.unt _).mono ?_); rintro e w2 ⟨rfl, rfl⟩; exact ⟨by rw [HT2.out], Below.refl _ _⟩)); go_big_quiet_on)))
    refine wpQuiet_nil ?_
    rintro _ ⟨g, rfl⟩
    go_wp2
    go_ret
    exact ⟨says_no (fun h => P1.out (by unfold BookG at h; exact h.1)), after hb0 g.bel⟩
  have P1 : Hid (IsName b.own) := p1
  have D1 : Hid (decide (IsName b.own) = true) := decide_eq_true p1
  clear p1
  by_cases p2 : LegsOk N S b.lgn b.lg
  case neg =>
    have P2 : Hid (¬ (LegsOk N S b.lgn b.lg)) := p2
    clear p2
    refine wp_region_grow (by kernel_rfl) (by kernel_rfl) ?_
    repeat (first | go_big_quiet_skip | (go_big_quiet_want; go_big_quiet_op; first | go_big_quiet_on | (apply Exists.intro; refine ⟨fun g => ?_, ?_⟩; (focus (go_at_call 149; refine grown_call (v := .bool true) ((isName_is _ _ (by have := HSB.out.1; omega)).mono ?_); rintro e w2 ⟨rfl, rfl⟩; exact ⟨by rw [D1.out], Below.refl _ _⟩)); go_big_quiet_on) | (apply Exists.intro; refine ⟨fun g => ?_, ?_⟩; (focus (go_at_call 150; refine grown_call (v := .bool false) ((implFit_any asa alg N b.lgn csa clg S b.lg _ hN HSB.out.2 HSH.out (HSA.out.below (after hb0 g.bel)) (HLG.out.below (after hb0 g.bel))).mono ?_); rintro e w2 ⟨⟨bb, rfl, hi⟩, hbb⟩; obtain rfl := Bool.eq_false_iff.2 (fun e => P2.out (hi.1 e).2); exact ⟨rfl, hbb⟩)); go_big_quiet_on) | (apply Exists.intro; refine ⟨fun g => ?_, ?_⟩; (focus (go_at_call 153; refine grown_call (v := .bool T) ((isTime_is b.unt _).mono ?_); rintro e w2 ⟨rfl, rfl⟩; exact ⟨by rw [HT2.out], Below.refl _ _⟩)); go_big_quiet_on)))
    refine wpQuiet_nil ?_
    rintro _ ⟨g, rfl⟩
    go_wp2
    go_ret
    exact ⟨says_no (fun h => P2.out (by unfold BookG at h; exact h.2.1)), after hb0 g.bel⟩
  have P2 : Hid (LegsOk N S b.lgn b.lg) := p2
  clear p2
  by_cases p3 : PartyOk b.p
  case neg =>
    have P3 : Hid (¬ (PartyOk b.p)) := p3
    clear p3
    refine wp_region_grow (by kernel_rfl) (by kernel_rfl) ?_
    repeat (first | go_big_quiet_skip | (go_big_quiet_want; go_big_quiet_op; first | go_big_quiet_on | (apply Exists.intro; refine ⟨fun g => ?_, ?_⟩; (focus (go_at_call 149; refine grown_call (v := .bool true) ((isName_is _ _ (by have := HSB.out.1; omega)).mono ?_); rintro e w2 ⟨rfl, rfl⟩; exact ⟨by rw [D1.out], Below.refl _ _⟩)); go_big_quiet_on) | (apply Exists.intro; refine ⟨fun g => ?_, ?_⟩; (focus (go_at_call 150; refine grown_call (v := .bool true) ((implFit_any asa alg N b.lgn csa clg S b.lg _ hN HSB.out.2 HSH.out (HSA.out.below (after hb0 g.bel)) (HLG.out.below (after hb0 g.bel))).mono ?_); rintro e w2 ⟨⟨bb, rfl, hi⟩, hbb⟩; obtain rfl := hi.2 ⟨HT.out, P2.out⟩; exact ⟨rfl, hbb⟩)); go_big_quiet_on) | (apply Exists.intro; refine ⟨fun g => ?_, ?_⟩; (focus (go_at_call 151; refine grown_call (v := .bool false) ((implParty_any b.pe b.len b.hei b.cl b.all b.be _).mono ?_); rintro e w2 ⟨⟨bb, rfl, hi⟩, hbb⟩; obtain rfl := Bool.eq_false_iff.2 (fun e => P3.out (hi.1 e)); exact ⟨rfl, hbb⟩)); go_big_quiet_on) | (apply Exists.intro; refine ⟨fun g => ?_, ?_⟩; (focus (go_at_call 153; refine grown_call (v := .bool T) ((isTime_is b.unt _).mono ?_); rintro e w2 ⟨rfl, rfl⟩; exact ⟨by rw [HT2.out], Below.refl _ _⟩)); go_big_quiet_on)))
    refine wpQuiet_nil ?_
    rintro _ ⟨g, rfl⟩
    go_wp2
    go_ret
    exact ⟨says_no (fun h => P3.out (by unfold BookG at h; exact h.2.2.1)), after hb0 g.bel⟩
  have P3 : Hid (PartyOk b.p) := p3
  clear p3
  by_cases p4 : In b.state 1 4
  case neg =>
    have P4 : Hid (¬ (In b.state 1 4)) := p4
    have D4 : Hid (decide (In b.state 1 4) = false) := decide_eq_false p4
    clear p4
    refine wp_region_grow (by kernel_rfl) (by kernel_rfl) ?_
    repeat (first | go_big_quiet_skip | (go_big_quiet_want; go_big_quiet_op; first | go_big_quiet_on | (apply Exists.intro; refine ⟨fun g => ?_, ?_⟩; (focus (go_at_call 149; refine grown_call (v := .bool true) ((isName_is _ _ (by have := HSB.out.1; omega)).mono ?_); rintro e w2 ⟨rfl, rfl⟩; exact ⟨by rw [D1.out], Below.refl _ _⟩)); go_big_quiet_on) | (apply Exists.intro; refine ⟨fun g => ?_, ?_⟩; (focus (go_at_call 150; refine grown_call (v := .bool true) ((implFit_any asa alg N b.lgn csa clg S b.lg _ hN HSB.out.2 HSH.out (HSA.out.below (after hb0 g.bel)) (HLG.out.below (after hb0 g.bel))).mono ?_); rintro e w2 ⟨⟨bb, rfl, hi⟩, hbb⟩; obtain rfl := hi.2 ⟨HT.out, P2.out⟩; exact ⟨rfl, hbb⟩)); go_big_quiet_on) | (apply Exists.intro; refine ⟨fun g => ?_, ?_⟩; (focus (go_at_call 151; refine grown_call (v := .bool true) ((implParty_any b.pe b.len b.hei b.cl b.all b.be _).mono ?_); rintro e w2 ⟨⟨bb, rfl, hi⟩, hbb⟩; obtain rfl := hi.2 P3.out; exact ⟨rfl, hbb⟩)); go_big_quiet_on) | (apply Exists.intro; refine ⟨fun g => ?_, ?_⟩; (focus (go_at_call 143; with_reducible refine grown_call (v := .bool false) (Calls.mono (within_is b.state 1 4 _) ?_); rintro e w2 ⟨rfl, rfl⟩; exact ⟨by rw [D4.out], Below.refl _ _⟩)); go_big_quiet_on) | (apply Exists.intro; refine ⟨fun g => ?_, ?_⟩; (focus (go_at_call 153; refine grown_call (v := .bool T) ((isTime_is b.unt _).mono ?_); rintro e w2 ⟨rfl, rfl⟩; exact ⟨by rw [HT2.out], Below.refl _ _⟩)); go_big_quiet_on)))
    refine wpQuiet_nil ?_
    rintro _ ⟨g, rfl⟩
    go_wp2
    go_ret
    exact ⟨says_no (fun h => P4.out (by unfold BookG at h; exact h.2.2.2.1)), after hb0 g.bel⟩
  have P4 : Hid (In b.state 1 4) := p4
  have D4 : Hid (decide (In b.state 1 4) = true) := decide_eq_true p4
  clear p4
  by_cases p5 : UntilB b
  case neg =>
    have P5 : Hid (¬ (UntilB b)) := p5
    have D5 : Hid ((if K then T else Z) = false) := Bool.eq_false_iff.2 (fun h => p5 (HU.out.1 h))
    clear p5
    refine wp_region_grow (by kernel_rfl) (by kernel_rfl) ?_
    repeat (first | go_big_quiet_skip | (go_big_quiet_want; go_big_quiet_op; first | go_big_quiet_on | (apply Exists.intro; refine ⟨fun g => ?_, ?_⟩; (focus (go_at_call 149; refine grown_call (v := .bool true) ((isName_is _ _ (by have := HSB.out.1; omega)).mono ?_); rintro e w2 ⟨rfl, rfl⟩; exact ⟨by rw [D1.out], Below.refl _ _⟩)); go_big_quiet_on) | (apply Exists.intro; refine ⟨fun g => ?_, ?_⟩; (focus (go_at_call 150; refine grown_call (v := .bool true) ((implFit_any asa alg N b.lgn csa clg S b.lg _ hN HSB.out.2 HSH.out (HSA.out.below (after hb0 g.bel)) (HLG.out.below (after hb0 g.bel))).mono ?_); rintro e w2 ⟨⟨bb, rfl, hi⟩, hbb⟩; obtain rfl := hi.2 ⟨HT.out, P2.out⟩; exact ⟨rfl, hbb⟩)); go_big_quiet_on) | (apply Exists.intro; refine ⟨fun g => ?_, ?_⟩; (focus (go_at_call 151; refine grown_call (v := .bool true) ((implParty_any b.pe b.len b.hei b.cl b.all b.be _).mono ?_); rintro e w2 ⟨⟨bb, rfl, hi⟩, hbb⟩; obtain rfl := hi.2 P3.out; exact ⟨rfl, hbb⟩)); go_big_quiet_on) | (apply Exists.intro; refine ⟨fun g => ?_, ?_⟩; (focus (go_at_call 143; with_reducible refine grown_call (v := .bool true) (Calls.mono (within_is b.state 1 4 _) ?_); rintro e w2 ⟨rfl, rfl⟩; exact ⟨by rw [D4.out], Below.refl _ _⟩)); go_big_quiet_on) | (apply Exists.intro; refine ⟨fun g => ?_, ?_⟩; (focus (go_at_call 152; refine grown_call (v := .bool false) ((goodWhere_is K T Z _).mono ?_); rintro e w2 ⟨rfl, rfl⟩; exact ⟨by rw [D5.out], Below.refl _ _⟩)); go_big_quiet_on) | (apply Exists.intro; refine ⟨fun g => ?_, ?_⟩; (focus (go_at_call 153; refine grown_call (v := .bool T) ((isTime_is b.unt _).mono ?_); rintro e w2 ⟨rfl, rfl⟩; exact ⟨by rw [HT2.out], Below.refl _ _⟩)); go_big_quiet_on)))
    refine wpQuiet_nil ?_
    rintro _ ⟨g, rfl⟩
    go_wp2
    go_ret
    exact ⟨says_no (fun h => P5.out (by unfold BookG at h; exact h.2.2.2.2.1)), after hb0 g.bel⟩
  have P5 : Hid (UntilB b) := p5
  have D5 : Hid ((if K then T else Z) = true) := HU.out.2 p5
  clear p5
  by_cases p6 : In b.price 0 1000000
  case neg =>
    have P6 : Hid (¬ (In b.price 0 1000000)) := p6
    have D6 : Hid (decide (In b.price 0 1000000) = false) := decide_eq_false p6
    clear p6
    refine wp_region_grow (by kernel_rfl) (by kernel_rfl) ?_
    repeat (first | go_big_quiet_skip | (go_big_quiet_want; go_big_quiet_op; first | go_big_quiet_on | (apply Exists.intro; refine ⟨fun g => ?_, ?_⟩; (focus (go_at_call 149; refine grown_call (v := .bool true) ((isName_is _ _ (by have := HSB.out.1; omega)).mono ?_); rintro e w2 ⟨rfl, rfl⟩; exact ⟨by rw [D1.out], Below.refl _ _⟩)); go_big_quiet_on) | (apply Exists.intro; refine ⟨fun g => ?_, ?_⟩; (focus (go_at_call 150; refine grown_call (v := .bool true) ((implFit_any asa alg N b.lgn csa clg S b.lg _ hN HSB.out.2 HSH.out (HSA.out.below (after hb0 g.bel)) (HLG.out.below (after hb0 g.bel))).mono ?_); rintro e w2 ⟨⟨bb, rfl, hi⟩, hbb⟩; obtain rfl := hi.2 ⟨HT.out, P2.out⟩; exact ⟨rfl, hbb⟩)); go_big_quiet_on) | (apply Exists.intro; refine ⟨fun g => ?_, ?_⟩; (focus (go_at_call 151; refine grown_call (v := .bool true) ((implParty_any b.pe b.len b.hei b.cl b.all b.be _).mono ?_); rintro e w2 ⟨⟨bb, rfl, hi⟩, hbb⟩; obtain rfl := hi.2 P3.out; exact ⟨rfl, hbb⟩)); go_big_quiet_on) | (apply Exists.intro; refine ⟨fun g => ?_, ?_⟩; (focus (go_at_call 143; with_reducible refine grown_call (v := .bool true) (Calls.mono (within_is b.state 1 4 _) ?_); rintro e w2 ⟨rfl, rfl⟩; exact ⟨by rw [D4.out], Below.refl _ _⟩)); go_big_quiet_on) | (apply Exists.intro; refine ⟨fun g => ?_, ?_⟩; (focus (go_at_call 152; refine grown_call (v := .bool true) ((goodWhere_is K T Z _).mono ?_); rintro e w2 ⟨rfl, rfl⟩; exact ⟨by rw [D5.out], Below.refl _ _⟩)); go_big_quiet_on) | (apply Exists.intro; refine ⟨fun g => ?_, ?_⟩; (focus (go_at_call 143; with_reducible refine grown_call (v := .bool false) (Calls.mono (within_is b.price 0 1000000 _) ?_); rintro e w2 ⟨rfl, rfl⟩; exact ⟨by rw [D6.out], Below.refl _ _⟩)); go_big_quiet_on) | (apply Exists.intro; refine ⟨fun g => ?_, ?_⟩; (focus (go_at_call 153; refine grown_call (v := .bool T) ((isTime_is b.unt _).mono ?_); rintro e w2 ⟨rfl, rfl⟩; exact ⟨by rw [HT2.out], Below.refl _ _⟩)); go_big_quiet_on)))
    refine wpQuiet_nil ?_
    rintro _ ⟨g, rfl⟩
    go_wp2
    go_ret
    exact ⟨says_no (fun h => P6.out (by unfold BookG at h; exact h.2.2.2.2.2)), after hb0 g.bel⟩
  have P6 : Hid (In b.price 0 1000000) := p6
  have D6 : Hid (decide (In b.price 0 1000000) = true) := decide_eq_true p6
  clear p6
  refine wp_region_grow (by kernel_rfl) (by kernel_rfl) ?_
  repeat (first | go_big_quiet_skip | (go_big_quiet_want; go_big_quiet_op; first | go_big_quiet_on | (apply Exists.intro; refine ⟨fun g => ?_, ?_⟩; (focus (go_at_call 149; refine grown_call (v := .bool true) ((isName_is _ _ (by have := HSB.out.1; omega)).mono ?_); rintro e w2 ⟨rfl, rfl⟩; exact ⟨by rw [D1.out], Below.refl _ _⟩)); go_big_quiet_on) | (apply Exists.intro; refine ⟨fun g => ?_, ?_⟩; (focus (go_at_call 150; refine grown_call (v := .bool true) ((implFit_any asa alg N b.lgn csa clg S b.lg _ hN HSB.out.2 HSH.out (HSA.out.below (after hb0 g.bel)) (HLG.out.below (after hb0 g.bel))).mono ?_); rintro e w2 ⟨⟨bb, rfl, hi⟩, hbb⟩; obtain rfl := hi.2 ⟨HT.out, P2.out⟩; exact ⟨rfl, hbb⟩)); go_big_quiet_on) | (apply Exists.intro; refine ⟨fun g => ?_, ?_⟩; (focus (go_at_call 151; refine grown_call (v := .bool true) ((implParty_any b.pe b.len b.hei b.cl b.all b.be _).mono ?_); rintro e w2 ⟨⟨bb, rfl, hi⟩, hbb⟩; obtain rfl := hi.2 P3.out; exact ⟨rfl, hbb⟩)); go_big_quiet_on) | (apply Exists.intro; refine ⟨fun g => ?_, ?_⟩; (focus (go_at_call 143; with_reducible refine grown_call (v := .bool true) (Calls.mono (within_is b.state 1 4 _) ?_); rintro e w2 ⟨rfl, rfl⟩; exact ⟨by rw [D4.out], Below.refl _ _⟩)); go_big_quiet_on) | (apply Exists.intro; refine ⟨fun g => ?_, ?_⟩; (focus (go_at_call 152; refine grown_call (v := .bool true) ((goodWhere_is K T Z _).mono ?_); rintro e w2 ⟨rfl, rfl⟩; exact ⟨by rw [D5.out], Below.refl _ _⟩)); go_big_quiet_on) | (apply Exists.intro; refine ⟨fun g => ?_, ?_⟩; (focus (go_at_call 143; with_reducible refine grown_call (v := .bool true) (Calls.mono (within_is b.price 0 1000000 _) ?_); rintro e w2 ⟨rfl, rfl⟩; exact ⟨by rw [D6.out], Below.refl _ _⟩)); go_big_quiet_on) | (apply Exists.intro; refine ⟨fun g => ?_, ?_⟩; (focus (go_at_call 153; refine grown_call (v := .bool T) ((isTime_is b.unt _).mono ?_); rintro e w2 ⟨rfl, rfl⟩; exact ⟨by rw [HT2.out], Below.refl _ _⟩)); go_big_quiet_on)))
  refine wpQuiet_nil ?_
  rintro _ ⟨g, rfl⟩
  go_wp2
  go_ret
  exact ⟨says_yes ⟨P1.out, P2.out, P3.out, P4.out, P5.out, P6.out⟩, after hb0 g.bel⟩
end Go.Proofs.YtlelckbeoclhbaaGreat

namespace Go.Proofs.YtlelckbeoclhbaaGreat
open Go.RowKit
end Go.Proofs.YtlelckbeoclhbaaGreat
