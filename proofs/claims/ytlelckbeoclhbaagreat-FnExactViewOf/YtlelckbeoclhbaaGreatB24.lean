/-
  OWN TEXT: JustI, FitsI, FreeI, DeckI.
-/
import Derived.Test.YtlelckbeoclhbaaGreatB23
import Derived.Test.YtlelckbeoclhbaaGreatB22
import Derived.Test.YtlelckbeoclhbaaGreatB07
import Derived.Test.YtlelckbeoclhbaaGreatB11
import Derived.Test.YtlelckbeoclhbaaGreatB18
set_option maxHeartbeats 12800000
set_option maxRecDepth 100000
namespace Go.Proofs.YtlelckbeoclhbaaGreat
open Go.RowKit
theorem holdsJust_any (s : Sail) (l : Load) (m : Nat) (B : Nat → Book) (C : Nat → List Value) (ala aca ast aro ase abk : Option Addr) (cla cca cst cro cse cbk : Nat) (w : World) (hm : m ≤ 1048576) (hl : Load.Short l 1048576)
    (hcab : ∀ j, j < l.ron → 0 ≤ (l.ro j).cab ∧ (l.ro j).cab < s.ca.n) (hca : PairsAt w aca s.ca) (hst : StaysAt w ast l.stn l.st) (hro : RoomsAt w aro l.ron l.ro) (hse : SeatsAt w ase l.sen l.se) (hC : RecsAt w abk m 13 C) (hI : ∀ k, k < m → Book.Is w (C k) (B k)) :
    Calls Tryz.prog 64 #[.agg #[.int .i64 s.id, .string s.fr, .string s.dst, .int .i64 s.dep, .int .i64 s.arr, .slice ala s.la.n cla, .slice aca s.ca.n cca, .int .i64 s.most], .agg #[.slice ast l.stn cst, .slice aro l.ron cro, .slice ase l.sen cse], .slice abk m cbk] w fun e w' => SaysIf (Just s l m B) e ∧ Below w.heap.size w w' := by
  have HCA : Hid (PairsAt w aca s.ca) := hca
  have HST : Hid (StaysAt w ast l.stn l.st) := hst
  have HRO : Hid (RoomsAt w aro l.ron l.ro) := hro
  have HSE : Hid (SeatsAt w ase l.sen l.se) := hse
  have HC : Hid (RecsAt w abk m 13 C) := hC
  have HI : Hid (∀ k, k < m → Book.Is w (C k) (B k)) := hI
  have HCB : Hid (∀ j, j < l.ron → 0 ≤ (l.ro j).cab ∧ (l.ro j).cab < s.ca.n) := hcab
  have HLS : Hid (Load.Short l 1048576) := hl
  clear hca hst hro hse hC hI hcab hl
  have hb0 : Below w.heap.size w ((w.alloc (.cells #[.int .i64 s.id, .string s.fr, .string s.dst, .int .i64 s.dep, .int .i64 s.arr, .slice ala s.la.n cla, .slice aca s.ca.n cca, .int .i64 s.most] 54)).alloc (.cells #[.slice ast l.stn cst, .slice aro l.ron cro, .slice ase l.sen cse] 62)) := push (push (Below.refl _ _) _) _
  have bS : ((w.alloc (.cells #[.int .i64 s.id, .string s.fr, .string s.dst, .int .i64 s.dep, .int .i64 s.arr, .slice ala s.la.n cla, .slice aca s.ca.n cca, .int .i64 s.most] 54)).alloc (.cells #[.slice ast l.stn cst, .slice aro l.ron cro, .slice ase l.sen cse] 62)).heap[w.heap.size]? = some (.cells #[.int .i64 s.id, .string s.fr, .string s.dst, .int .i64 s.dep, .int .i64 s.arr, .slice ala s.la.n cla, .slice aca s.ca.n cca, .int .i64 s.most] 54 (0, 0)) := blk_alloc (heap_alloc_new w _) _
  have bL : ((w.alloc (.cells #[.int .i64 s.id, .string s.fr, .string s.dst, .int .i64 s.dep, .int .i64 s.arr, .slice ala s.la.n cla, .slice aca s.ca.n cca, .int .i64 s.most] 54)).alloc (.cells #[.slice ast l.stn cst, .slice aro l.ron cro, .slice ase l.sen cse] 62)).heap[w.heap.size + 1]? = some (.cells #[.slice ast l.stn cst, .slice aro l.ron cro, .slice ase l.sen cse] 62 (0, 0)) := by simpa using heap_alloc_new (w.alloc _) _
  go_enter Tryz.func64, Tryz.ntmps64
  go_wp2
  generalize (w.alloc (.cells #[.int .i64 s.id, .string s.fr, .string s.dst, .int .i64 s.dep, .int .i64 s.arr, .slice ala s.la.n cla, .slice aca s.ca.n cca, .int .i64 s.most] 54)).alloc (.cells #[.slice ast l.stn cst, .slice aro l.ron cro, .slice ase l.sen cse] 62) = V at hb0 bS bL ⊢
  have HBS : Hid (V.heap[w.heap.size]? = some (.cells #[.int .i64 s.id, .string s.fr, .string s.dst, .int .i64 s.dep, .int .i64 s.arr, .slice ala s.la.n cla, .slice aca s.ca.n cca, .int .i64 s.most] 54 (0, 0))) := bS
  have HBL : Hid (V.heap[w.heap.size + 1]? = some (.cells #[.slice ast l.stn cst, .slice aro l.ron cro, .slice ase l.sen cse] 62 (0, 0))) := bL
  clear bS bL
  go_loopw [7, 8, 10, 13] (fun n1 n2 _ i wr => ∃ k : Nat, k ≤ m ∧ i = .int .i64 k ∧ n1 = .int .i64 (cnt (fun j => ¬ NoCar (B j)) k : Nat) ∧ n2 = .int .i64 (cnt (fun j => ¬ NoCab (B j)) k : Nat) ∧ (∀ j, j < k → Holds s l (B j)) ∧ Below V.heap.size V wr) (fun _ _ _ i _ => m - (intOf i).toNat)
  case atStart => exact ⟨0, Nat.zero_le _, rfl, rfl, rfl, fun j hj => by omega, Below.refl _ _⟩
  case round =>
    obtain ⟨k, hk, rfl, rfl, rfl, hall, hbel⟩ := hrel
    have HA : Hid (∀ j, j < k → Holds s l (B j)) := hall
    clear hall
    obtain ⟨m1, hm1⟩ : ∃ x, x = cnt (fun j => ¬ NoCar (B j)) k := ⟨_, rfl⟩
    obtain ⟨m2, hm2⟩ : ∃ x, x = cnt (fun j => ¬ NoCab (B j)) k := ⟨_, rfl⟩
    have l1 : m1 ≤ k := by rw [hm1]; exact cnt_le _ _
    have l2 : m2 ≤ k := by rw [hm2]; exact cnt_le _ _
    rw [← hm1, ← hm2]
    have HM1 : Hid (m1 = cnt (fun j => ¬ NoCar (B j)) k) := hm1
    have HM2 : Hid (m2 = cnt (fun j => ¬ NoCab (B j)) k) := hm2
    clear hm1 hm2
    by_cases hlt2 : k < m
    · have hbw := after hb0 hbel
      obtain ⟨bb, bo, rfl, hc⟩ := HC.out k hlt2
      obtain ⟨alg, clg, eC, _, _⟩ := HI.out k hlt2
      obtain ⟨b, hb⟩ : ∃ b, b = B k := ⟨_, rfl⟩
      rw [← hb] at eC
      have HB : Hid (b = B k) := hb
      have hltb : bb < w.heap.size := World.block_lt_of_cell? w _ (hc 0 (by decide))
      have c0 : wr.cell? ⟨bb, bo + k * 13, none⟩ = some (.int .i64 b.name) := (hbw.cell (p := ⟨bb, bo + k * 13, none⟩) hltb).trans (by have := hc 0 (by decide); rw [eC] at this; exact this)
      have c1 : wr.cell? ⟨bb, bo + k * 13 + 1, none⟩ = some (.int .i64 b.who) := (hbw.cell (p := ⟨bb, bo + k * 13 + 1, none⟩) hltb).trans (by have := hc 1 (by decide); rw [eC] at this; exact this)
      have c2 : wr.cell? ⟨bb, bo + k * 13 + 2, none⟩ = some (.string b.own) := (hbw.cell (p := ⟨bb, bo + k * 13 + 2, none⟩) hltb).trans (by have := hc 2 (by decide); rw [eC] at this; exact this)
      have c3 : wr.cell? ⟨bb, bo + k * 13 + 3, none⟩ = some (.slice alg b.lgn clg) := (hbw.cell (p := ⟨bb, bo + k * 13 + 3, none⟩) hltb).trans (by have := hc 3 (by decide); rw [eC] at this; exact this)
      have c4 : wr.cell? ⟨bb, bo + k * 13 + 4, none⟩ = some (.int .i64 b.pe) := (hbw.cell (p := ⟨bb, bo + k * 13 + 4, none⟩) hltb).trans (by have := hc 4 (by decide); rw [eC] at this; exact this)
      have c5 : wr.cell? ⟨bb, bo + k * 13 + 5, none⟩ = some (.int .i64 b.len) := (hbw.cell (p := ⟨bb, bo + k * 13 + 5, none⟩) hltb).trans (by have := hc 5 (by decide); rw [eC] at this; exact this)
      have c6 : wr.cell? ⟨bb, bo + k * 13 + 6, none⟩ = some (.int .i64 b.hei) := (hbw.cell (p := ⟨bb, bo + k * 13 + 6, none⟩) hltb).trans (by have := hc 6 (by decide); rw [eC] at this; exact this)
      have c7 : wr.cell? ⟨bb, bo + k * 13 + 7, none⟩ = some (.int .i64 b.cl) := (hbw.cell (p := ⟨bb, bo + k * 13 + 7, none⟩) hltb).trans (by have := hc 7 (by decide); rw [eC] at this; exact this)
      have c8 : wr.cell? ⟨bb, bo + k * 13 + 8, none⟩ = some (.bool b.all) := (hbw.cell (p := ⟨bb, bo + k * 13 + 8, none⟩) hltb).trans (by have := hc 8 (by decide); rw [eC] at this; exact this)
      have c9 : wr.cell? ⟨bb, bo + k * 13 + 9, none⟩ = some (.int .i64 b.be) := (hbw.cell (p := ⟨bb, bo + k * 13 + 9, none⟩) hltb).trans (by have := hc 9 (by decide); rw [eC] at this; exact this)
      have c10 : wr.cell? ⟨bb, bo + k * 13 + 10, none⟩ = some (.int .i64 b.state) := (hbw.cell (p := ⟨bb, bo + k * 13 + 10, none⟩) hltb).trans (by have := hc 10 (by decide); rw [eC] at this; exact this)
      have c11 : wr.cell? ⟨bb, bo + k * 13 + 11, none⟩ = some (.int .i64 b.unt) := (hbw.cell (p := ⟨bb, bo + k * 13 + 11, none⟩) hltb).trans (by have := hc 11 (by decide); rw [eC] at this; exact this)
      have c12 : wr.cell? ⟨bb, bo + k * 13 + 12, none⟩ = some (.int .i64 b.price) := (hbw.cell (p := ⟨bb, bo + k * 13 + 12, none⟩) hltb).trans (by have := hc 12 (by decide); rw [eC] at this; exact this)
      clear hc eC hb
      have hbx := push hbel (.cells #[.int .i64 b.name, .int .i64 b.who, .string b.own, .slice alg b.lgn clg, .int .i64 b.pe, .int .i64 b.len, .int .i64 b.hei, .int .i64 b.cl, .bool b.all, .int .i64 b.be, .int .i64 b.state, .int .i64 b.unt, .int .i64 b.price] 72)
      have hbox := heap_alloc_new wr (.cells #[.int .i64 b.name, .int .i64 b.who, .string b.own, .slice alg b.lgn clg, .int .i64 b.pe, .int .i64 b.len, .int .i64 b.hei, .int .i64 b.cl, .bool b.all, .int .i64 b.be, .int .i64 b.state, .int .i64 b.unt, .int .i64 b.price] 72)
      go_wp2_with fail
      generalize hBx : wr.heap.size = Bx at hbox ⊢
      generalize wr.alloc (.cells #[.int .i64 b.name, .int .i64 b.who, .string b.own, .slice alg b.lgn clg, .int .i64 b.pe, .int .i64 b.len, .int .i64 b.hei, .int .i64 b.cl, .bool b.all, .int .i64 b.be, .int .i64 b.state, .int .i64 b.unt, .int .i64 b.price] 72) = W at hbx hbox ⊢
      clear hBx c0 c1 c2 c3 c4 c5 c6 c7 c8 c9 c10 c11 c12 hbel hbw
      obtain ⟨t1, ht1⟩ : ∃ c, c = decide (¬ (b.len = 0 ∧ b.hei = 0)) := ⟨_, rfl⟩
      have H1 : Hid (t1 = true ↔ ¬ NoCar b) := by show t1 = true ↔ ¬ NoCar b; rw [ht1, decide_eq_true_eq]; exact Iff.rfl
      refine (asksCar_any b.pe b.len b.hei b.cl b.all b.be _).mono ?_
      rw [← ht1]
      clear ht1
      rintro e W1 ⟨rfl, hbv⟩
      have hbx1 := after hbx hbv
      have hbox1 := blk_below hbox hbv
      clear hbx hbox hbv W
      obtain ⟨t2, ht2⟩ : ∃ c, c = decide (¬ (b.cl = 0 ∧ b.all = false ∧ b.be = 0)) := ⟨_, rfl⟩
      have H2 : Hid (t2 = true ↔ ¬ NoCab b) := by show t2 = true ↔ ¬ NoCab b; rw [ht2, decide_eq_true_eq]; exact Iff.rfl
      have HT2 : Hid (t2 = decide (¬ (b.cl = 0 ∧ b.all = false ∧ b.be = 0))) := ht2
      clear ht2
      have hw1 : IntKind.i64.wrap ((m1 : Int) + 1) = (m1 : Int) + 1 := by rw [IntKind.wrap_i64]; omega
      have hw2 : IntKind.i64.wrap ((m2 : Int) + 1) = (m2 : Int) + 1 := by rw [IntKind.wrap_i64]; omega
      have HLE : Hid (k < m) := hlt2
      cases t1 with
      | true =>
        have HQ1 : Hid (¬ NoCar b) := H1.out.1 rfl
        clear H1
        have y4 := blk_cell hbox1 4 _ rfl
        have y5 := blk_cell hbox1 5 _ rfl
        have y6 := blk_cell hbox1 6 _ rfl
        have y7 := blk_cell hbox1 7 _ rfl
        have y8 := blk_cell hbox1 8 _ rfl
        have y9 := blk_cell hbox1 9 _ rfl
        go_wp2_with fail
        refine (asksCabin_any b.pe b.len b.hei b.cl b.all b.be _).mono ?_
        rw [← HT2.out]
        rintro e W2 ⟨rfl, hbv⟩
        have hbx2 := after hbx1 hbv
        have hbox2 := blk_below hbox1 hbv
        clear y4 y5 y6 y7 y8 y9 hbx1 hbox1 hbv W1 HT2
        cases t2 with
        | true =>
          have HQ2 : Hid (¬ NoCab b) := H2.out.1 rfl
          clear H2
          have y0 := blk_cell hbox2 0 _ rfl
          have y1 := blk_cell hbox2 1 _ rfl
          have y2 := blk_cell hbox2 2 _ rfl
          have y3 := blk_cell hbox2 3 _ rfl
          have y4 := blk_cell hbox2 4 _ rfl
          have y5 := blk_cell hbox2 5 _ rfl
          have y6 := blk_cell hbox2 6 _ rfl
          have y7 := blk_cell hbox2 7 _ rfl
          have y8 := blk_cell hbox2 8 _ rfl
          have y9 := blk_cell hbox2 9 _ rfl
          have y10 := blk_cell hbox2 10 _ rfl
          have y11 := blk_cell hbox2 11 _ rfl
          have y12 := blk_cell hbox2 12 _ rfl
          have s6 := blk_cell (blk_below HBS.out hbx2) 6 _ rfl
          have l0' := blk_cell (blk_below HBL.out hbx2) 0 _ rfl
          have l1' := blk_cell (blk_below HBL.out hbx2) 1 _ rfl
          have l2' := blk_cell (blk_below HBL.out hbx2) 2 _ rfl
          go_wp2_with fail
          refine (holdsCar_any b alg clg l ast cst _ HLS.out.1 (HST.out.below (after hb0 hbx2))).mono ?_
          rintro e W3 ⟨⟨u0, rfl, hu0⟩, hbv⟩
          have HU0 : Hid (u0 = true ↔ HoldC l b) := hu0
          have hbx3 := after hbx2 hbv
          have hbox3 := blk_below hbox2 hbv
          clear y0 y1 y2 y3 y4 y5 y6 y7 y8 y9 y10 y11 y12 s6 l0' l1' l2' hbx2 hbox2 hbv hu0 W2
          cases u0 with
          | false =>
            have HN : Hid (¬ Just s l m B) := fun h => by have h1 := (h.1 k HLE.out).1; rw [← HB.out] at h1; have := HU0.out.2 h1; cases this
            go_wp2
            go_ret
            exact ⟨says_no HN.out, after hb0 hbx3⟩
          | true =>
          have HP0 : Hid (HoldC l b) := HU0.out.1 rfl
          clear HU0
          have y0 := blk_cell hbox3 0 _ rfl
          have y1 := blk_cell hbox3 1 _ rfl
          have y2 := blk_cell hbox3 2 _ rfl
          have y3 := blk_cell hbox3 3 _ rfl
          have y4 := blk_cell hbox3 4 _ rfl
          have y5 := blk_cell hbox3 5 _ rfl
          have y6 := blk_cell hbox3 6 _ rfl
          have y7 := blk_cell hbox3 7 _ rfl
          have y8 := blk_cell hbox3 8 _ rfl
          have y9 := blk_cell hbox3 9 _ rfl
          have y10 := blk_cell hbox3 10 _ rfl
          have y11 := blk_cell hbox3 11 _ rfl
          have y12 := blk_cell hbox3 12 _ rfl
          have s6 := blk_cell (blk_below HBS.out hbx3) 6 _ rfl
          have l0' := blk_cell (blk_below HBL.out hbx3) 0 _ rfl
          have l1' := blk_cell (blk_below HBL.out hbx3) 1 _ rfl
          have l2' := blk_cell (blk_below HBL.out hbx3) 2 _ rfl
          go_wp2_with fail
          refine (holdsCabin_any b alg clg s l aca aro cca cro _ HLS.out.2.1 HCB.out (HCA.out.below (after hb0 hbx3)) (HRO.out.below (after hb0 hbx3))).mono ?_
          rintro e W4 ⟨⟨u1, rfl, hu1⟩, hbv⟩
          have HU1 : Hid (u1 = true ↔ HoldR s l b) := hu1
          have hbx4 := after hbx3 hbv
          have hbox4 := blk_below hbox3 hbv
          clear y0 y1 y2 y3 y4 y5 y6 y7 y8 y9 y10 y11 y12 s6 l0' l1' l2' hbx3 hbox3 hbv hu1 W3
          cases u1 with
          | false =>
            have HN : Hid (¬ Just s l m B) := fun h => by have h1 := (h.1 k HLE.out).2.1; rw [← HB.out] at h1; have := HU1.out.2 h1; cases this
            go_wp2
            go_ret
            exact ⟨says_no HN.out, after hb0 hbx4⟩
          | true =>
          have HP1 : Hid (HoldR s l b) := HU1.out.1 rfl
          clear HU1
          have y0 := blk_cell hbox4 0 _ rfl
          have y1 := blk_cell hbox4 1 _ rfl
          have y2 := blk_cell hbox4 2 _ rfl
          have y3 := blk_cell hbox4 3 _ rfl
          have y4 := blk_cell hbox4 4 _ rfl
          have y5 := blk_cell hbox4 5 _ rfl
          have y6 := blk_cell hbox4 6 _ rfl
          have y7 := blk_cell hbox4 7 _ rfl
          have y8 := blk_cell hbox4 8 _ rfl
          have y9 := blk_cell hbox4 9 _ rfl
          have y10 := blk_cell hbox4 10 _ rfl
          have y11 := blk_cell hbox4 11 _ rfl
          have y12 := blk_cell hbox4 12 _ rfl
          have s6 := blk_cell (blk_below HBS.out hbx4) 6 _ rfl
          have l0' := blk_cell (blk_below HBL.out hbx4) 0 _ rfl
          have l1' := blk_cell (blk_below HBL.out hbx4) 1 _ rfl
          have l2' := blk_cell (blk_below HBL.out hbx4) 2 _ rfl
          go_wp2_with fail
          refine (holdsSeats_any b alg clg l ase cse _ HLS.out.2.2 (HSE.out.below (after hb0 hbx4))).mono ?_
          rintro e W5 ⟨⟨u2, rfl, hu2⟩, hbv⟩
          have HU2 : Hid (u2 = true ↔ HoldT l b) := hu2
          have hbx5 := after hbx4 hbv
          have hbox5 := blk_below hbox4 hbv
          clear y0 y1 y2 y3 y4 y5 y6 y7 y8 y9 y10 y11 y12 s6 l0' l1' l2' hbx4 hbox4 hbv hu2 W4
          cases u2 with
          | false =>
            have HN : Hid (¬ Just s l m B) := fun h => by have h1 := (h.1 k HLE.out).2.2; rw [← HB.out] at h1; have := HU2.out.2 h1; cases this
            go_wp2
            go_ret
            exact ⟨says_no HN.out, after hb0 hbx5⟩
          | true =>
          have HP2 : Hid (HoldT l b) := HU2.out.1 rfl
          clear HU2
          go_wp2
          go_roundw
          case rel => exact ⟨k + 1, by omega, by go_num, by rw [cnt_yes (P := fun j => ¬ NoCar (B j)) (by rw [← HB.out]; exact HQ1.out), ← HM1.out]; simp, by rw [cnt_yes (P := fun j => ¬ NoCab (B j)) (by rw [← HB.out]; exact HQ2.out), ← HM2.out]; simp, fun j hj => by
            by_cases e : j = k
            · subst e; rw [← HB.out]; exact ⟨HP0.out, HP1.out, HP2.out⟩
            · exact HA.out j (by omega), hbx5⟩
          case measure => simp [intOf]; omega
        | false =>
          have HQ2 : Hid (¬ ¬ NoCab b) := fun h => by have := H2.out.2 h; cases this
          clear H2
          have y0 := blk_cell hbox2 0 _ rfl
          have y1 := blk_cell hbox2 1 _ rfl
          have y2 := blk_cell hbox2 2 _ rfl
          have y3 := blk_cell hbox2 3 _ rfl
          have y4 := blk_cell hbox2 4 _ rfl
          have y5 := blk_cell hbox2 5 _ rfl
          have y6 := blk_cell hbox2 6 _ rfl
          have y7 := blk_cell hbox2 7 _ rfl
          have y8 := blk_cell hbox2 8 _ rfl
          have y9 := blk_cell hbox2 9 _ rfl
          have y10 := blk_cell hbox2 10 _ rfl
          have y11 := blk_cell hbox2 11 _ rfl
          have y12 := blk_cell hbox2 12 _ rfl
          have s6 := blk_cell (blk_below HBS.out hbx2) 6 _ rfl
          have l0' := blk_cell (blk_below HBL.out hbx2) 0 _ rfl
          have l1' := blk_cell (blk_below HBL.out hbx2) 1 _ rfl
          have l2' := blk_cell (blk_below HBL.out hbx2) 2 _ rfl
          go_wp2_with fail
          refine (holdsCar_any b alg clg l ast cst _ HLS.out.1 (HST.out.below (after hb0 hbx2))).mono ?_
          rintro e W3 ⟨⟨u0, rfl, hu0⟩, hbv⟩
          have HU0 : Hid (u0 = true ↔ HoldC l b) := hu0
          have hbx3 := after hbx2 hbv
          have hbox3 := blk_below hbox2 hbv
          clear y0 y1 y2 y3 y4 y5 y6 y7 y8 y9 y10 y11 y12 s6 l0' l1' l2' hbx2 hbox2 hbv hu0 W2
          cases u0 with
          | false =>
            have HN : Hid (¬ Just s l m B) := fun h => by have h1 := (h.1 k HLE.out).1; rw [← HB.out] at h1; have := HU0.out.2 h1; cases this
            go_wp2
            go_ret
            exact ⟨says_no HN.out, after hb0 hbx3⟩
          | true =>
          have HP0 : Hid (HoldC l b) := HU0.out.1 rfl
          clear HU0
          have y0 := blk_cell hbox3 0 _ rfl
          have y1 := blk_cell hbox3 1 _ rfl
          have y2 := blk_cell hbox3 2 _ rfl
          have y3 := blk_cell hbox3 3 _ rfl
          have y4 := blk_cell hbox3 4 _ rfl
          have y5 := blk_cell hbox3 5 _ rfl
          have y6 := blk_cell hbox3 6 _ rfl
          have y7 := blk_cell hbox3 7 _ rfl
          have y8 := blk_cell hbox3 8 _ rfl
          have y9 := blk_cell hbox3 9 _ rfl
          have y10 := blk_cell hbox3 10 _ rfl
          have y11 := blk_cell hbox3 11 _ rfl
          have y12 := blk_cell hbox3 12 _ rfl
          have s6 := blk_cell (blk_below HBS.out hbx3) 6 _ rfl
          have l0' := blk_cell (blk_below HBL.out hbx3) 0 _ rfl
          have l1' := blk_cell (blk_below HBL.out hbx3) 1 _ rfl
          have l2' := blk_cell (blk_below HBL.out hbx3) 2 _ rfl
          go_wp2_with fail
          refine (holdsCabin_any b alg clg s l aca aro cca cro _ HLS.out.2.1 HCB.out (HCA.out.below (after hb0 hbx3)) (HRO.out.below (after hb0 hbx3))).mono ?_
          rintro e W4 ⟨⟨u1, rfl, hu1⟩, hbv⟩
          have HU1 : Hid (u1 = true ↔ HoldR s l b) := hu1
          have hbx4 := after hbx3 hbv
          have hbox4 := blk_below hbox3 hbv
          clear y0 y1 y2 y3 y4 y5 y6 y7 y8 y9 y10 y11 y12 s6 l0' l1' l2' hbx3 hbox3 hbv hu1 W3
          cases u1 with
          | false =>
            have HN : Hid (¬ Just s l m B) := fun h => by have h1 := (h.1 k HLE.out).2.1; rw [← HB.out] at h1; have := HU1.out.2 h1; cases this
            go_wp2
            go_ret
            exact ⟨says_no HN.out, after hb0 hbx4⟩
          | true =>
          have HP1 : Hid (HoldR s l b) := HU1.out.1 rfl
          clear HU1
          have y0 := blk_cell hbox4 0 _ rfl
          have y1 := blk_cell hbox4 1 _ rfl
          have y2 := blk_cell hbox4 2 _ rfl
          have y3 := blk_cell hbox4 3 _ rfl
          have y4 := blk_cell hbox4 4 _ rfl
          have y5 := blk_cell hbox4 5 _ rfl
          have y6 := blk_cell hbox4 6 _ rfl
          have y7 := blk_cell hbox4 7 _ rfl
          have y8 := blk_cell hbox4 8 _ rfl
          have y9 := blk_cell hbox4 9 _ rfl
          have y10 := blk_cell hbox4 10 _ rfl
          have y11 := blk_cell hbox4 11 _ rfl
          have y12 := blk_cell hbox4 12 _ rfl
          have s6 := blk_cell (blk_below HBS.out hbx4) 6 _ rfl
          have l0' := blk_cell (blk_below HBL.out hbx4) 0 _ rfl
          have l1' := blk_cell (blk_below HBL.out hbx4) 1 _ rfl
          have l2' := blk_cell (blk_below HBL.out hbx4) 2 _ rfl
          go_wp2_with fail
          refine (holdsSeats_any b alg clg l ase cse _ HLS.out.2.2 (HSE.out.below (after hb0 hbx4))).mono ?_
          rintro e W5 ⟨⟨u2, rfl, hu2⟩, hbv⟩
          have HU2 : Hid (u2 = true ↔ HoldT l b) := hu2
          have hbx5 := after hbx4 hbv
          have hbox5 := blk_below hbox4 hbv
          clear y0 y1 y2 y3 y4 y5 y6 y7 y8 y9 y10 y11 y12 s6 l0' l1' l2' hbx4 hbox4 hbv hu2 W4
          cases u2 with
          | false =>
            have HN : Hid (¬ Just s l m B) := fun h => by have h1 := (h.1 k HLE.out).2.2; rw [← HB.out] at h1; have := HU2.out.2 h1; cases this
            go_wp2
            go_ret
            exact ⟨says_no HN.out, after hb0 hbx5⟩
          | true =>
          have HP2 : Hid (HoldT l b) := HU2.out.1 rfl
          clear HU2
          go_wp2
          go_roundw
          case rel => exact ⟨k + 1, by omega, by go_num, by rw [cnt_yes (P := fun j => ¬ NoCar (B j)) (by rw [← HB.out]; exact HQ1.out), ← HM1.out]; simp, by rw [cnt_no (P := fun j => ¬ NoCab (B j)) (by rw [← HB.out]; exact HQ2.out), ← HM2.out], fun j hj => by
            by_cases e : j = k
            · subst e; rw [← HB.out]; exact ⟨HP0.out, HP1.out, HP2.out⟩
            · exact HA.out j (by omega), hbx5⟩
          case measure => simp [intOf]; omega
      | false =>
        have HQ1 : Hid (¬ ¬ NoCar b) := fun h => by have := H1.out.2 h; cases this
        clear H1
        have y4 := blk_cell hbox1 4 _ rfl
        have y5 := blk_cell hbox1 5 _ rfl
        have y6 := blk_cell hbox1 6 _ rfl
        have y7 := blk_cell hbox1 7 _ rfl
        have y8 := blk_cell hbox1 8 _ rfl
        have y9 := blk_cell hbox1 9 _ rfl
        go_wp2_with fail
        refine (asksCabin_any b.pe b.len b.hei b.cl b.all b.be _).mono ?_
        rw [← HT2.out]
        rintro e W2 ⟨rfl, hbv⟩
        have hbx2 := after hbx1 hbv
        have hbox2 := blk_below hbox1 hbv
        clear y4 y5 y6 y7 y8 y9 hbx1 hbox1 hbv W1 HT2
        cases t2 with
        | true =>
          have HQ2 : Hid (¬ NoCab b) := H2.out.1 rfl
          clear H2
          have y0 := blk_cell hbox2 0 _ rfl
          have y1 := blk_cell hbox2 1 _ rfl
          have y2 := blk_cell hbox2 2 _ rfl
          have y3 := blk_cell hbox2 3 _ rfl
          have y4 := blk_cell hbox2 4 _ rfl
          have y5 := blk_cell hbox2 5 _ rfl
          have y6 := blk_cell hbox2 6 _ rfl
          have y7 := blk_cell hbox2 7 _ rfl
          have y8 := blk_cell hbox2 8 _ rfl
          have y9 := blk_cell hbox2 9 _ rfl
          have y10 := blk_cell hbox2 10 _ rfl
          have y11 := blk_cell hbox2 11 _ rfl
          have y12 := blk_cell hbox2 12 _ rfl
          have s6 := blk_cell (blk_below HBS.out hbx2) 6 _ rfl
          have l0' := blk_cell (blk_below HBL.out hbx2) 0 _ rfl
          have l1' := blk_cell (blk_below HBL.out hbx2) 1 _ rfl
          have l2' := blk_cell (blk_below HBL.out hbx2) 2 _ rfl
          go_wp2_with fail
          refine (holdsCar_any b alg clg l ast cst _ HLS.out.1 (HST.out.below (after hb0 hbx2))).mono ?_
          rintro e W3 ⟨⟨u0, rfl, hu0⟩, hbv⟩
          have HU0 : Hid (u0 = true ↔ HoldC l b) := hu0
          have hbx3 := after hbx2 hbv
          have hbox3 := blk_below hbox2 hbv
          clear y0 y1 y2 y3 y4 y5 y6 y7 y8 y9 y10 y11 y12 s6 l0' l1' l2' hbx2 hbox2 hbv hu0 W2
          cases u0 with
          | false =>
            have HN : Hid (¬ Just s l m B) := fun h => by have h1 := (h.1 k HLE.out).1; rw [← HB.out] at h1; have := HU0.out.2 h1; cases this
            go_wp2
            go_ret
            exact ⟨says_no HN.out, after hb0 hbx3⟩
          | true =>
          have HP0 : Hid (HoldC l b) := HU0.out.1 rfl
          clear HU0
          have y0 := blk_cell hbox3 0 _ rfl
          have y1 := blk_cell hbox3 1 _ rfl
          have y2 := blk_cell hbox3 2 _ rfl
          have y3 := blk_cell hbox3 3 _ rfl
          have y4 := blk_cell hbox3 4 _ rfl
          have y5 := blk_cell hbox3 5 _ rfl
          have y6 := blk_cell hbox3 6 _ rfl
          have y7 := blk_cell hbox3 7 _ rfl
          have y8 := blk_cell hbox3 8 _ rfl
          have y9 := blk_cell hbox3 9 _ rfl
          have y10 := blk_cell hbox3 10 _ rfl
          have y11 := blk_cell hbox3 11 _ rfl
          have y12 := blk_cell hbox3 12 _ rfl
          have s6 := blk_cell (blk_below HBS.out hbx3) 6 _ rfl
          have l0' := blk_cell (blk_below HBL.out hbx3) 0 _ rfl
          have l1' := blk_cell (blk_below HBL.out hbx3) 1 _ rfl
          have l2' := blk_cell (blk_below HBL.out hbx3) 2 _ rfl
          go_wp2_with fail
          refine (holdsCabin_any b alg clg s l aca aro cca cro _ HLS.out.2.1 HCB.out (HCA.out.below (after hb0 hbx3)) (HRO.out.below (after hb0 hbx3))).mono ?_
          rintro e W4 ⟨⟨u1, rfl, hu1⟩, hbv⟩
          have HU1 : Hid (u1 = true ↔ HoldR s l b) := hu1
          have hbx4 := after hbx3 hbv
          have hbox4 := blk_below hbox3 hbv
          clear y0 y1 y2 y3 y4 y5 y6 y7 y8 y9 y10 y11 y12 s6 l0' l1' l2' hbx3 hbox3 hbv hu1 W3
          cases u1 with
          | false =>
            have HN : Hid (¬ Just s l m B) := fun h => by have h1 := (h.1 k HLE.out).2.1; rw [← HB.out] at h1; have := HU1.out.2 h1; cases this
            go_wp2
            go_ret
            exact ⟨says_no HN.out, after hb0 hbx4⟩
          | true =>
          have HP1 : Hid (HoldR s l b) := HU1.out.1 rfl
          clear HU1
          have y0 := blk_cell hbox4 0 _ rfl
          have y1 := blk_cell hbox4 1 _ rfl
          have y2 := blk_cell hbox4 2 _ rfl
          have y3 := blk_cell hbox4 3 _ rfl
          have y4 := blk_cell hbox4 4 _ rfl
          have y5 := blk_cell hbox4 5 _ rfl
          have y6 := blk_cell hbox4 6 _ rfl
          have y7 := blk_cell hbox4 7 _ rfl
          have y8 := blk_cell hbox4 8 _ rfl
          have y9 := blk_cell hbox4 9 _ rfl
          have y10 := blk_cell hbox4 10 _ rfl
          have y11 := blk_cell hbox4 11 _ rfl
          have y12 := blk_cell hbox4 12 _ rfl
          have s6 := blk_cell (blk_below HBS.out hbx4) 6 _ rfl
          have l0' := blk_cell (blk_below HBL.out hbx4) 0 _ rfl
          have l1' := blk_cell (blk_below HBL.out hbx4) 1 _ rfl
          have l2' := blk_cell (blk_below HBL.out hbx4) 2 _ rfl
          go_wp2_with fail
          refine (holdsSeats_any b alg clg l ase cse _ HLS.out.2.2 (HSE.out.below (after hb0 hbx4))).mono ?_
          rintro e W5 ⟨⟨u2, rfl, hu2⟩, hbv⟩
          have HU2 : Hid (u2 = true ↔ HoldT l b) := hu2
          have hbx5 := after hbx4 hbv
          have hbox5 := blk_below hbox4 hbv
          clear y0 y1 y2 y3 y4 y5 y6 y7 y8 y9 y10 y11 y12 s6 l0' l1' l2' hbx4 hbox4 hbv hu2 W4
          cases u2 with
          | false =>
            have HN : Hid (¬ Just s l m B) := fun h => by have h1 := (h.1 k HLE.out).2.2; rw [← HB.out] at h1; have := HU2.out.2 h1; cases this
            go_wp2
            go_ret
            exact ⟨says_no HN.out, after hb0 hbx5⟩
          | true =>
          have HP2 : Hid (HoldT l b) := HU2.out.1 rfl
          clear HU2
          go_wp2
          go_roundw
          case rel => exact ⟨k + 1, by omega, by go_num, by rw [cnt_no (P := fun j => ¬ NoCar (B j)) (by rw [← HB.out]; exact HQ1.out), ← HM1.out], by rw [cnt_yes (P := fun j => ¬ NoCab (B j)) (by rw [← HB.out]; exact HQ2.out), ← HM2.out]; simp, fun j hj => by
            by_cases e : j = k
            · subst e; rw [← HB.out]; exact ⟨HP0.out, HP1.out, HP2.out⟩
            · exact HA.out j (by omega), hbx5⟩
          case measure => simp [intOf]; omega
        | false =>
          have HQ2 : Hid (¬ ¬ NoCab b) := fun h => by have := H2.out.2 h; cases this
          clear H2
          have y0 := blk_cell hbox2 0 _ rfl
          have y1 := blk_cell hbox2 1 _ rfl
          have y2 := blk_cell hbox2 2 _ rfl
          have y3 := blk_cell hbox2 3 _ rfl
          have y4 := blk_cell hbox2 4 _ rfl
          have y5 := blk_cell hbox2 5 _ rfl
          have y6 := blk_cell hbox2 6 _ rfl
          have y7 := blk_cell hbox2 7 _ rfl
          have y8 := blk_cell hbox2 8 _ rfl
          have y9 := blk_cell hbox2 9 _ rfl
          have y10 := blk_cell hbox2 10 _ rfl
          have y11 := blk_cell hbox2 11 _ rfl
          have y12 := blk_cell hbox2 12 _ rfl
          have s6 := blk_cell (blk_below HBS.out hbx2) 6 _ rfl
          have l0' := blk_cell (blk_below HBL.out hbx2) 0 _ rfl
          have l1' := blk_cell (blk_below HBL.out hbx2) 1 _ rfl
          have l2' := blk_cell (blk_below HBL.out hbx2) 2 _ rfl
          go_wp2_with fail
          refine (holdsCar_any b alg clg l ast cst _ HLS.out.1 (HST.out.below (after hb0 hbx2))).mono ?_
          rintro e W3 ⟨⟨u0, rfl, hu0⟩, hbv⟩
          have HU0 : Hid (u0 = true ↔ HoldC l b) := hu0
          have hbx3 := after hbx2 hbv
          have hbox3 := blk_below hbox2 hbv
          clear y0 y1 y2 y3 y4 y5 y6 y7 y8 y9 y10 y11 y12 s6 l0' l1' l2' hbx2 hbox2 hbv hu0 W2
          cases u0 with
          | false =>
            have HN : Hid (¬ Just s l m B) := fun h => by have h1 := (h.1 k HLE.out).1; rw [← HB.out] at h1; have := HU0.out.2 h1; cases this
            go_wp2
            go_ret
            exact ⟨says_no HN.out, after hb0 hbx3⟩
          | true =>
          have HP0 : Hid (HoldC l b) := HU0.out.1 rfl
          clear HU0
          have y0 := blk_cell hbox3 0 _ rfl
          have y1 := blk_cell hbox3 1 _ rfl
          have y2 := blk_cell hbox3 2 _ rfl
          have y3 := blk_cell hbox3 3 _ rfl
          have y4 := blk_cell hbox3 4 _ rfl
          have y5 := blk_cell hbox3 5 _ rfl
          have y6 := blk_cell hbox3 6 _ rfl
          have y7 := blk_cell hbox3 7 _ rfl
          have y8 := blk_cell hbox3 8 _ rfl
          have y9 := blk_cell hbox3 9 _ rfl
          have y10 := blk_cell hbox3 10 _ rfl
          have y11 := blk_cell hbox3 11 _ rfl
          have y12 := blk_cell hbox3 12 _ rfl
          have s6 := blk_cell (blk_below HBS.out hbx3) 6 _ rfl
          have l0' := blk_cell (blk_below HBL.out hbx3) 0 _ rfl
          have l1' := blk_cell (blk_below HBL.out hbx3) 1 _ rfl
          have l2' := blk_cell (blk_below HBL.out hbx3) 2 _ rfl
          go_wp2_with fail
          refine (holdsCabin_any b alg clg s l aca aro cca cro _ HLS.out.2.1 HCB.out (HCA.out.below (after hb0 hbx3)) (HRO.out.below (after hb0 hbx3))).mono ?_
          rintro e W4 ⟨⟨u1, rfl, hu1⟩, hbv⟩
          have HU1 : Hid (u1 = true ↔ HoldR s l b) := hu1
          have hbx4 := after hbx3 hbv
          have hbox4 := blk_below hbox3 hbv
          clear y0 y1 y2 y3 y4 y5 y6 y7 y8 y9 y10 y11 y12 s6 l0' l1' l2' hbx3 hbox3 hbv hu1 W3
          cases u1 with
          | false =>
            have HN : Hid (¬ Just s l m B) := fun h => by have h1 := (h.1 k HLE.out).2.1; rw [← HB.out] at h1; have := HU1.out.2 h1; cases this
            go_wp2
            go_ret
            exact ⟨says_no HN.out, after hb0 hbx4⟩
          | true =>
          have HP1 : Hid (HoldR s l b) := HU1.out.1 rfl
          clear HU1
          have y0 := blk_cell hbox4 0 _ rfl
          have y1 := blk_cell hbox4 1 _ rfl
          have y2 := blk_cell hbox4 2 _ rfl
          have y3 := blk_cell hbox4 3 _ rfl
          have y4 := blk_cell hbox4 4 _ rfl
          have y5 := blk_cell hbox4 5 _ rfl
          have y6 := blk_cell hbox4 6 _ rfl
          have y7 := blk_cell hbox4 7 _ rfl
          have y8 := blk_cell hbox4 8 _ rfl
          have y9 := blk_cell hbox4 9 _ rfl
          have y10 := blk_cell hbox4 10 _ rfl
          have y11 := blk_cell hbox4 11 _ rfl
          have y12 := blk_cell hbox4 12 _ rfl
          have s6 := blk_cell (blk_below HBS.out hbx4) 6 _ rfl
          have l0' := blk_cell (blk_below HBL.out hbx4) 0 _ rfl
          have l1' := blk_cell (blk_below HBL.out hbx4) 1 _ rfl
          have l2' := blk_cell (blk_below HBL.out hbx4) 2 _ rfl
          go_wp2_with fail
          refine (holdsSeats_any b alg clg l ase cse _ HLS.out.2.2 (HSE.out.below (after hb0 hbx4))).mono ?_
          rintro e W5 ⟨⟨u2, rfl, hu2⟩, hbv⟩
          have HU2 : Hid (u2 = true ↔ HoldT l b) := hu2
          have hbx5 := after hbx4 hbv
          have hbox5 := blk_below hbox4 hbv
          clear y0 y1 y2 y3 y4 y5 y6 y7 y8 y9 y10 y11 y12 s6 l0' l1' l2' hbx4 hbox4 hbv hu2 W4
          cases u2 with
          | false =>
            have HN : Hid (¬ Just s l m B) := fun h => by have h1 := (h.1 k HLE.out).2.2; rw [← HB.out] at h1; have := HU2.out.2 h1; cases this
            go_wp2
            go_ret
            exact ⟨says_no HN.out, after hb0 hbx5⟩
          | true =>
          have HP2 : Hid (HoldT l b) := HU2.out.1 rfl
          clear HU2
          go_wp2
          go_roundw
          case rel => exact ⟨k + 1, by omega, by go_num, by rw [cnt_no (P := fun j => ¬ NoCar (B j)) (by rw [← HB.out]; exact HQ1.out), ← HM1.out], by rw [cnt_no (P := fun j => ¬ NoCab (B j)) (by rw [← HB.out]; exact HQ2.out), ← HM2.out], fun j hj => by
            by_cases e : j = k
            · subst e; rw [← HB.out]; exact ⟨HP0.out, HP1.out, HP2.out⟩
            · exact HA.out j (by omega), hbx5⟩
          case measure => simp [intOf]; omega
    · obtain rfl : k = m := by omega
      have l0' := blk_cell (blk_below HBL.out hbel) 0 _ rfl
      have l1' := blk_cell (blk_below HBL.out hbel) 1 _ rfl
      have l2' := blk_cell (blk_below HBL.out hbel) 2 _ rfl
      have HJ : Hid (Just s l k B ↔ l.stn = m1 ∧ l.ron = m2 ∧ l.sen = k) := by
        show Just s l k B ↔ l.stn = m1 ∧ l.ron = m2 ∧ l.sen = k
        unfold Just
        rw [← HM1.out, ← HM2.out]
        exact ⟨fun h => h.2, fun h => ⟨HA.out, h⟩⟩
      have hbe := after hb0 hbel
      clear hbel HM1 HM2 HA
      by_cases v1 : l.stn = m1
      case neg =>
        have e1 : ((l.stn : Int) == (m1 : Int)) = false := by simp; omega
        have HN : Hid (¬ Just s l k B) := fun h => v1 (HJ.out.1 h).1
        clear v1
        go_wp2
        go_ret
        exact ⟨says_no HN.out, hbe⟩
      have e1 : ((l.stn : Int) == (m1 : Int)) = true := by simp; omega
      by_cases v2 : l.ron = m2
      case neg =>
        have e2 : ((l.ron : Int) == (m2 : Int)) = false := by simp; omega
        have HN : Hid (¬ Just s l k B) := fun h => v2 (HJ.out.1 h).2.1
        clear v1 v2
        go_wp2
        go_ret
        exact ⟨says_no HN.out, hbe⟩
      have e2 : ((l.ron : Int) == (m2 : Int)) = true := by simp; omega
      by_cases v3 : l.sen = k
      case neg =>
        have e3 : ((l.sen : Int) == (k : Int)) = false := by simp; omega
        have HN : Hid (¬ Just s l k B) := fun h => v3 (HJ.out.1 h).2.2
        clear v1 v2 v3
        go_wp2
        go_ret
        exact ⟨says_no HN.out, hbe⟩
      have e3 : ((l.sen : Int) == (k : Int)) = true := by simp; omega
      have HN : Hid (Just s l k B) := HJ.out.2 ⟨v1, v2, v3⟩
      clear v1 v2 v3
      go_wp2
      go_ret
      exact ⟨says_yes HN.out, hbe⟩
end Go.Proofs.YtlelckbeoclhbaaGreat

namespace Go.Proofs.YtlelckbeoclhbaaGreat
open Go.RowKit
theorem fitsOn_any (ao : Option Addr) (n c : Nat) (p : Pairs) (F : Nat → Int) (x l s h : Int) (w : World) (hl : p.n = n) (hn : n ≤ 4) (hz : PairsAt w ao p) :
    Calls Tryz.prog 167 #[.slice ao n c, .agg #[.int .i64 (F 0), .int .i64 (F 1), .int .i64 (F 2), .int .i64 (F 3)], .agg #[.int .i64 x, .int .i64 l, .int .i64 s, .int .i64 h]] w fun e w' => SaysIf (Fits p F ⟨x, l, s, h⟩) e ∧ Below w.heap.size w w' := by
  have HL : Hid (p.n = n) := hl
  clear hl
  go_enter Tryz.func167, Tryz.ntmps167
  go_upto_region 1 with fail
  have b0 : ((w.alloc (.cells #[.int .i64 (F 0), .int .i64 (F 1), .int .i64 (F 2), .int .i64 (F 3)] 204)).alloc (.cells #[.int .i64 x, .int .i64 l, .int .i64 s, .int .i64 h] 118)).heap[w.heap.size]? = some (.cells #[.int .i64 (F 0), .int .i64 (F 1), .int .i64 (F 2), .int .i64 (F 3)] 204 (0, 0)) := blk_alloc (heap_alloc_new w _) _
  have b1 : ((w.alloc (.cells #[.int .i64 (F 0), .int .i64 (F 1), .int .i64 (F 2), .int .i64 (F 3)] 204)).alloc (.cells #[.int .i64 x, .int .i64 l, .int .i64 s, .int .i64 h] 118)).heap[w.heap.size + 1]? = some (.cells #[.int .i64 x, .int .i64 l, .int .i64 s, .int .i64 h] 118 (0, 0)) := by simpa using heap_alloc_new (w.alloc _) _
  have hb0 : Below w.heap.size w ((w.alloc (.cells #[.int .i64 (F 0), .int .i64 (F 1), .int .i64 (F 2), .int .i64 (F 3)] 204)).alloc (.cells #[.int .i64 x, .int .i64 l, .int .i64 s, .int .i64 h] 118)) := push (push (Below.refl _ _) _) _
  generalize (w.alloc (.cells #[.int .i64 (F 0), .int .i64 (F 1), .int .i64 (F 2), .int .i64 (F 3)] 204)).alloc (.cells #[.int .i64 x, .int .i64 l, .int .i64 s, .int .i64 h] 118) = W at b0 b1 hb0 ⊢
  have s0 := blk_lt b0
  have s1 := blk_lt b1
  have z0 : ∀ g : Grown W, g.val.cell? ⟨w.heap.size + 1, 0, none⟩ = some (.int .i64 x) := fun g => (g.bel.cell s1).trans (blk_cell b1 0 _ rfl)
  have z1 : ∀ g : Grown W, g.val.cell? ⟨w.heap.size + 1, 1, none⟩ = some (.int .i64 l) := fun g => (g.bel.cell s1).trans (blk_cell b1 1 _ rfl)
  have z2 : ∀ g : Grown W, g.val.cell? ⟨w.heap.size + 1, 2, none⟩ = some (.int .i64 s) := fun g => (g.bel.cell s1).trans (blk_cell b1 2 _ rfl)
  have z3 : ∀ g : Grown W, g.val.cell? ⟨w.heap.size + 1, 3, none⟩ = some (.int .i64 h) := fun g => (g.bel.cell s1).trans (blk_cell b1 3 _ rfl)
  have y : Hid (∀ m, m < 4 → ∀ g : Grown W, g.val.cell? ⟨w.heap.size, m, none⟩ = some (.int .i64 (F m))) := by
    intro m hm g
    refine (g.bel.cell s0).trans ?_
    have : m = 0 ∨ m = 1 ∨ m = 2 ∨ m = 3 := by omega
    rcases this with rfl | rfl | rfl | rfl
    · exact blk_cell b0 0 _ rfl
    · exact blk_cell b0 1 _ rfl
    · exact blk_cell b0 2 _ rfl
    · exact blk_cell b0 3 _ rfl
  clear b0 b1 s0 s1
  have hwr : IntKind.i64.wrap ((n : Int) - 1) = (n : Int) - 1 := by rw [IntKind.wrap_i64]; omega
  by_cases h1 : In x 1 9999
  · have e1 : decide (In x 1 9999) = true := decide_eq_true h1
    have H1 : Hid (In x 1 9999) := h1
    clear h1
    by_cases h2 : In s 1 2000 ∧ In h 1 500
    · have e2 : decide (In s 1 2000 ∧ In h 1 500) = true := decide_eq_true h2
      have H2 : Hid (In s 1 2000 ∧ In h 1 500) := h2
      clear h2
      by_cases h3 : In l 0 ((n : Int) - 1)
      · have e3 : decide (In l 0 ((n : Int) - 1)) = true := decide_eq_true h3
        have H3 : Hid (In l 0 ((n : Int) - 1)) := h3
        obtain ⟨m, rfl⟩ : ∃ m : Nat, l = m := ⟨l.toNat, by unfold In at h3; omega⟩
        have hm : m < n := by unfold In at h3; omega
        clear h3
        obtain ⟨b, off, rfl, g1, g2⟩ := hz m (by rw [HL.out]; exact hm)
        have hb := World.block_lt_of_cell? w _ g1
        have y2 : ∀ g : Grown W, g.val.cell? ⟨b, off + m * 2 + 1, none⟩ = some (.int .i64 (p.B m)) := fun g => ((after hb0 g.bel).cell (p := ⟨b, off + m * 2 + 1, none⟩) hb).trans g2
        have y3 : ∀ g : Grown W, g.val.cell? ⟨w.heap.size, m, none⟩ = some (.int .i64 (F m)) := y.out m (by omega)
        have i1 : (0 : Int) ≤ (m : Int) := by omega
        have i2 : (m : Int) < (n : Int) := by omega
        have i3 : (m : Int) < 4 := by omega
        have i4 : m < 4 := by omega
        clear g1 g2
        by_cases h4 : h ≤ p.B m
        · have e4 : decide (h ≤ p.B m) = true := decide_eq_true h4
          have H4 : Hid (h ≤ p.B m) := h4
          clear h4
          by_cases h5 : s ≤ F m
          · have e5 : decide (s ≤ F m) = true := decide_eq_true h5
            have H5 : Hid (s ≤ F m) := h5
            clear h5
            refine wp_region_grow (by kernel_rfl) (by kernel_rfl) ?_
            repeat (first | go_big_quiet_skip | (go_big_quiet_want; go_big_quiet_op; first | go_big_quiet_on | (apply Exists.intro; refine ⟨fun g => ?_, ?_⟩; (focus (first | (go_at_call 146; refine grown_call (v := .bool true) ((isBy_is _ _).mono ?_); rintro e w2 ⟨rfl, rfl⟩; exact ⟨by rw [e1], Below.refl _ _⟩) | (go_at_call 174; refine grown_call (v := .bool true) ((isCar_is _ _ _).mono ?_); rintro e w2 ⟨rfl, rfl⟩; exact ⟨by rw [e2], Below.refl _ _⟩) | (go_at_call 143; refine grown_call (v := .bool true) ((within_is _ _ _ _).mono ?_); rintro e w2 ⟨rfl, rfl⟩; exact ⟨by rw [e3], Below.refl _ _⟩))); go_big_quiet_on)))
            refine wpQuiet_nil ?_
            rintro _ ⟨g, rfl⟩
            go_wp2
            go_ret
            exact ⟨says_yes ⟨H1.out, H2.out.1, H2.out.2, by rw [HL.out]; exact H3.out, H4.out, H5.out⟩, after hb0 g.bel⟩
          · have e5 : decide (s ≤ F m) = false := decide_eq_false h5
            have H5 : Hid (¬ s ≤ F m) := h5
            clear h5
            refine wp_region_grow (by kernel_rfl) (by kernel_rfl) ?_
            repeat (first | go_big_quiet_skip | (go_big_quiet_want; go_big_quiet_op; first | go_big_quiet_on | (apply Exists.intro; refine ⟨fun g => ?_, ?_⟩; (focus (first | (go_at_call 146; refine grown_call (v := .bool true) ((isBy_is _ _).mono ?_); rintro e w2 ⟨rfl, rfl⟩; exact ⟨by rw [e1], Below.refl _ _⟩) | (go_at_call 174; refine grown_call (v := .bool true) ((isCar_is _ _ _).mono ?_); rintro e w2 ⟨rfl, rfl⟩; exact ⟨by rw [e2], Below.refl _ _⟩) | (go_at_call 143; refine grown_call (v := .bool true) ((within_is _ _ _ _).mono ?_); rintro e w2 ⟨rfl, rfl⟩; exact ⟨by rw [e3], Below.refl _ _⟩))); go_big_quiet_on)))
            refine wpQuiet_nil ?_
            rintro _ ⟨g, rfl⟩
            go_wp2
            go_ret
            exact ⟨says_no (fun h' => Int.not_le.2 H5.out h'.room), after hb0 g.bel⟩
        · have e4 : decide (h ≤ p.B m) = false := decide_eq_false h4
          have H4 : Hid (¬ h ≤ p.B m) := h4
          clear h4
          refine wp_region_grow (by kernel_rfl) (by kernel_rfl) ?_
          repeat (first | go_big_quiet_skip | (go_big_quiet_want; go_big_quiet_op; first | go_big_quiet_on | (apply Exists.intro; refine ⟨fun g => ?_, ?_⟩; (focus (first | (go_at_call 146; refine grown_call (v := .bool true) ((isBy_is _ _).mono ?_); rintro e w2 ⟨rfl, rfl⟩; exact ⟨by rw [e1], Below.refl _ _⟩) | (go_at_call 174; refine grown_call (v := .bool true) ((isCar_is _ _ _).mono ?_); rintro e w2 ⟨rfl, rfl⟩; exact ⟨by rw [e2], Below.refl _ _⟩) | (go_at_call 143; refine grown_call (v := .bool true) ((within_is _ _ _ _).mono ?_); rintro e w2 ⟨rfl, rfl⟩; exact ⟨by rw [e3], Below.refl _ _⟩))); go_big_quiet_on)))
          refine wpQuiet_nil ?_
          rintro _ ⟨g, rfl⟩
          go_wp2
          go_ret
          exact ⟨says_no (fun h' => Int.not_le.2 H4.out h'.high), after hb0 g.bel⟩
      · have e3 : decide (In l 0 ((n : Int) - 1)) = false := decide_eq_false h3
        have H3 : Hid (¬ In l 0 ((n : Int) - 1)) := h3
        clear h3
        refine wp_region_grow (by kernel_rfl) (by kernel_rfl) ?_
        repeat (first | go_big_quiet_skip | (go_big_quiet_want; go_big_quiet_op; first | go_big_quiet_on | (apply Exists.intro; refine ⟨fun g => ?_, ?_⟩; (focus (first | (go_at_call 146; refine grown_call (v := .bool true) ((isBy_is _ _).mono ?_); rintro e w2 ⟨rfl, rfl⟩; exact ⟨by rw [e1], Below.refl _ _⟩) | (go_at_call 174; refine grown_call (v := .bool true) ((isCar_is _ _ _).mono ?_); rintro e w2 ⟨rfl, rfl⟩; exact ⟨by rw [e2], Below.refl _ _⟩) | (go_at_call 143; refine grown_call (v := .bool false) ((within_is _ _ _ _).mono ?_); rintro e w2 ⟨rfl, rfl⟩; exact ⟨by rw [e3], Below.refl _ _⟩))); go_big_quiet_on)))
        refine wpQuiet_nil ?_
        rintro _ ⟨g, rfl⟩
        go_wp2
        go_ret
        exact ⟨says_no (fun h => H3.out (by have := h.ln; rw [HL.out] at this; exact this)), after hb0 g.bel⟩
    · have e2 : decide (In s 1 2000 ∧ In h 1 500) = false := decide_eq_false h2
      have H2 : Hid (¬ (In s 1 2000 ∧ In h 1 500)) := h2
      clear h2
      refine wp_region_grow (by kernel_rfl) (by kernel_rfl) ?_
      repeat (first | go_big_quiet_skip | (go_big_quiet_want; go_big_quiet_op; first | go_big_quiet_on | (apply Exists.intro; refine ⟨fun g => ?_, ?_⟩; (focus (first | (go_at_call 146; refine grown_call (v := .bool true) ((isBy_is _ _).mono ?_); rintro e w2 ⟨rfl, rfl⟩; exact ⟨by rw [e1], Below.refl _ _⟩) | (go_at_call 174; refine grown_call (v := .bool false) ((isCar_is _ _ _).mono ?_); rintro e w2 ⟨rfl, rfl⟩; exact ⟨by rw [e2], Below.refl _ _⟩))); go_big_quiet_on)))
      refine wpQuiet_nil ?_
      rintro _ ⟨g, rfl⟩
      go_wp2
      go_ret
      exact ⟨says_no (fun h => H2.out ⟨h.len, h.hei⟩), after hb0 g.bel⟩
  · have e1 : decide (In x 1 9999) = false := decide_eq_false h1
    have H1 : Hid (¬ In x 1 9999) := h1
    clear h1
    refine wp_region_grow (by kernel_rfl) (by kernel_rfl) ?_
    repeat (first | go_big_quiet_skip | (go_big_quiet_want; go_big_quiet_op; first | go_big_quiet_on | (apply Exists.intro; refine ⟨fun g => ?_, ?_⟩; (focus (first | (go_at_call 146; refine grown_call (v := .bool false) ((isBy_is _ _).mono ?_); rintro e w2 ⟨rfl, rfl⟩; exact ⟨by rw [e1], Below.refl _ _⟩))); go_big_quiet_on)))
    refine wpQuiet_nil ?_
    rintro _ ⟨g, rfl⟩
    go_wp2
    go_ret
    exact ⟨says_no (fun h => H1.out h.who), after hb0 g.bel⟩
end Go.Proofs.YtlelckbeoclhbaaGreat

namespace Go.Proofs.YtlelckbeoclhbaaGreat
open Go.RowKit
def four (F : Nat → Int) : Value := .agg #[.int .i64 (F 0), .int .i64 (F 1), .int .i64 (F 2), .int .i64 (F 3)]
def FreeAns (p : Pairs) (n : Nat) (S : Nat → Stay) (e : Ending) : Prop :=
  (DeckI p n S ∧ e = .returned (.tuple #[four (freeAt p S n), .bool true])) ∨ (¬ DeckI p n S ∧ e = .returned (.tuple #[four (fun _ => 0), .bool false]))
theorem four_set {w : World} {g t : Nat} {u0 u1 u2 u3 : Value} (h : w.heap[g]? = some (.cells #[u0, u1, u2, u3] t (0, 0))) (v0 v1 v2 v3 : Value) :
    ((((w.setCell ⟨g, 0, none⟩ v0).setCell ⟨g, 1, none⟩ v1).setCell ⟨g, 2, none⟩ v2).setCell ⟨g, 3, none⟩ v3).heap[g]? = some (.cells #[v0, v1, v2, v3] t (0, 0)) := by
  have := blk_set (blk_set (blk_set (blk_set h 0 v0) 1 v1) 2 v2) 3 v3
  simpa using this
theorem four_below {w w' : World} {g : Nat} (h : Below w.heap.size w w') (hg : w.heap.size ≤ g) (v0 v1 v2 v3 : Value) : Below w.heap.size w ((((w'.setCell ⟨g, 0, none⟩ v0).setCell ⟨g, 1, none⟩ v1).setCell ⟨g, 2, none⟩ v2).setCell ⟨g, 3, none⟩ v3) :=
  (((h.setCell hg _).setCell hg _).setCell hg _).setCell hg _
theorem zero_row {w : World} {g t : Nat} (h : w.heap[g]? = some (.cells #[.int .i64 0, .int .i64 0, .int .i64 0, .int .i64 0] t (0, 0))) : w.rowIs g t 4 (fun k => .int .i64 (upto 0 (fun _ => (0 : Int)) 0 k)) := by
  refine ⟨_, h, rfl, fun i hi => ?_⟩
  have : i = 0 ∨ i = 1 ∨ i = 2 ∨ i = 3 := by omega
  rcases this with rfl | rfl | rfl | rfl <;> rfl
theorem freeOnDeck_any (ao bo : Option Addr) (m mc n c : Nat) (p : Pairs) (S : Nat → Stay) (w : World) (hl : p.n = m) (hm : m ≤ 1048576) (hn : n ≤ 1048576) (hc : n ≤ c) (hx : PairsAt w ao p) (hz : StaysAt w bo n S) :
    Calls Tryz.prog 144 #[.slice ao m mc, .slice bo n c] w fun e w' => FreeAns p n S e ∧ Below w.heap.size w w' := by
  have HL : Hid (p.n = m) := hl
  have HX : Hid (PairsAt w ao p) := hx
  have HZ : Hid (StaysAt w bo n S) := hz
  clear hl hx hz
  have hb0 : Below w.heap.size w (w.alloc (.cells #[.int .i64 0, .int .i64 0, .int .i64 0, .int .i64 0] 204)) := push (Below.refl _ _) _
  have r0 : (w.alloc (.cells #[.int .i64 0, .int .i64 0, .int .i64 0, .int .i64 0] 204)).heap[w.heap.size]? = some (.cells #[.int .i64 0, .int .i64 0, .int .i64 0, .int .i64 0] 204 (0, 0)) := heap_alloc_new w _
  go_enter Tryz.func144, Tryz.ntmps144
  go_wp2_with fail
  refine (goodLanes_any ao m mc p _ HL.out hm (HX.out.below hb0)).mono ?_
  rintro e w1 ⟨⟨q, rfl, hq⟩, hb1⟩
  have bw1 := after hb0 hb1
  have r1 := blk_below r0 hb1
  clear hb0 r0 hb1
  cases q with
  | false =>
    have o0 := blk_cell r1 0 _ rfl
    have o1 := blk_cell r1 1 _ rfl
    have o2 := blk_cell r1 2 _ rfl
    have o3 := blk_cell r1 3 _ rfl
    have f0 := blk_free r1 0
    have f1 := blk_free r1 1
    have f2 := blk_free r1 2
    have f3 := blk_free r1 3
    have HG : Hid (¬ GoodL p) := fun h => by have := hq.2 h; cases this
    clear hq
    go_wp2
    have rF := four_set r1 (.int .i64 0) (.int .i64 0) (.int .i64 0) (.int .i64 0)
    have q0 := blk_cell rF 0 _ rfl
    have q1 := blk_cell rF 1 _ rfl
    have q2 := blk_cell rF 2 _ rfl
    have q3 := blk_cell rF 3 _ rfl
    exact bodyPost_ret (v := .tuple #[four (fun _ => 0), .bool false]) (by simp [results, Tryz.results144, go_sem, q0, q1, q2, q3, four]) rfl ⟨.inr ⟨fun h => HG.out h.1, rfl⟩, four_below bw1 (Nat.le_refl _) _ _ _ _⟩
  | true =>
    have HG : Hid (GoodL p) := hq.1 rfl
    have hm4 : m ≤ 4 := by rw [← HL.out]; exact HG.out.1
    clear hq
    by_cases h60 : n ≤ 60
    · have d0 : decide (60 < n) = false := by simp; omega
      go_upto_region 4 with fail
      have r2 := blk_alloc r1 (.cells #[.int .i64 0, .int .i64 0, .int .i64 0, .int .i64 0] 204)
      have x2 := zero_row (heap_alloc_new w1 (.cells #[.int .i64 0, .int .i64 0, .int .i64 0, .int .i64 0] 204))
      have bw2 := push bw1 (.cells #[.int .i64 0, .int .i64 0, .int .i64 0, .int .i64 0] 204)
      have hf : w.heap.size < w1.heap.size := blk_lt r1
      generalize w1.alloc (.cells #[.int .i64 0, .int .i64 0, .int .i64 0, .int .i64 0] 204) = w2 at r2 x2 bw2 ⊢
      generalize w1.heap.size = f at hf x2 ⊢
      clear r1 bw1
      go_wp2
      go_loopw [7, 21] (fun _ i wr => ∃ k : Nat, k ≤ m ∧ i = .int .i64 k ∧ wr.rowIs f 204 4 (fun j => .int .i64 (upto k p.A 0 j)) ∧ wr.heap[w.heap.size]? = some (.cells #[.int .i64 0, .int .i64 0, .int .i64 0, .int .i64 0] 204 (0, 0)) ∧ Below w.heap.size w wr) (fun _ i _ => m - (intOf i).toNat)
      case atStart => exact ⟨0, Nat.zero_le _, rfl, x2.congr (fun j _ => by unfold upto; rw [if_neg (Nat.not_lt_zero _), if_neg (Nat.not_lt_zero _)]), r2, bw2⟩
      case round =>
        obtain ⟨k, hk, rfl, hrow, hr, hbel⟩ := hrel
        clear r2 x2 bw2
        by_cases hlt : k < m
        · obtain ⟨b, off, rfl, h1, h2⟩ := HX.out k (by rw [HL.out]; exact hlt)
          have hb := World.block_lt_of_cell? w _ h1
          have c1 := (hbel.cell (p := ⟨b, off + k * 2, none⟩) hb).trans h1
          have o0 := hrow.cell (i := k) (by omega)
          have f0 := hrow.frozen k
          have i1 : (0 : Int) ≤ (k : Int) := by omega
          have i2 : (k : Int) < 4 := by omega
          clear h1 h2
          go_wp2
          go_roundw
          case rel => exact ⟨k + 1, by omega, by go_num, (hrow.set k _).congr (fun j _ => by
            by_cases e : j = k
            · subst e; rw [if_pos rfl, upto_lt _ _ (Nat.lt_succ_self _)]
            · rw [if_neg e, upto_step _ _ _ _ e]), blk_set_other hr _ _ (by omega), hbel.setCell (by show w.heap.size ≤ f; omega) _⟩
          case measure => simp [intOf]; omega
        · obtain rfl : k = m := by omega
          have hrow' : wr.rowIs f 204 4 (fun j => .int .i64 (freeAt p S 0 j)) := hrow.congr (fun j _ => by rw [freeAt_0, HL.out])
          clear hrow
          go_wp2
          go_loopw [8, 9, 34] (fun _ _ i wr => ∃ k : Nat, k ≤ n ∧ i = .int .i64 k ∧ (∀ j, j < k → ¬ Has (whoS S) j (S j).who ∧ Fits p (left p S j) (S j)) ∧ wr.rowIs f 204 4 (fun j => .int .i64 (freeAt p S k j)) ∧ wr.heap[w.heap.size]? = some (.cells #[.int .i64 0, .int .i64 0, .int .i64 0, .int .i64 0] 204 (0, 0)) ∧ Below w.heap.size w wr) (fun _ _ i _ => n - (intOf i).toNat)
          case atStart => exact ⟨0, Nat.zero_le _, rfl, fun j hj => by omega, hrow', hr, hbel⟩
          case round =>
            obtain ⟨i, hi, rfl, hall, hrow2, hr2, hbel2⟩ := hrel
            have HA : Hid (∀ j, j < i → ¬ Has (whoS S) j (S j).who ∧ Fits p (left p S j) (S j)) := hall
            clear hall hrow' hr hbel
            by_cases hlt2 : i < n
            · obtain ⟨b, off, rfl, h0, h1, h2, h3⟩ := HZ.out i hlt2
              have hb := World.block_lt_of_cell? w _ h0
              have c0 := (hbel2.cell (p := ⟨b, off + i * 4, none⟩) hb).trans h0
              have c1 := (hbel2.cell (p := ⟨b, off + i * 4 + 1, none⟩) hb).trans h1
              have c2 := (hbel2.cell (p := ⟨b, off + i * 4 + 2, none⟩) hb).trans h2
              have c3 := (hbel2.cell (p := ⟨b, off + i * 4 + 3, none⟩) hb).trans h3
              have hbox := heap_alloc_new wr (.cells #[.int .i64 (S i).who, .int .i64 (S i).ln, .int .i64 (S i).len, .int .i64 (S i).hei] 118)
              have hbx := push hbel2 (.cells #[.int .i64 (S i).who, .int .i64 (S i).ln, .int .i64 (S i).len, .int .i64 (S i).hei] 118)
              have hrx := blk_alloc hr2 (.cells #[.int .i64 (S i).who, .int .i64 (S i).ln, .int .i64 (S i).len, .int .i64 (S i).hei] 118)
              have hrw := row_below hrow2 (push (Below.refl _ wr) (.cells #[.int .i64 (S i).who, .int .i64 (S i).ln, .int .i64 (S i).len, .int .i64 (S i).hei] 118))
              clear h0 h1 h2 h3
              go_upto_region 12 with fail
              generalize hW : wr.alloc (.cells #[.int .i64 (S i).who, .int .i64 (S i).ln, .int .i64 (S i).len, .int .i64 (S i).hei] 118) = W at hbox hbx hrx hrw ⊢
              clear hW
              have hsW : wr.heap.size < W.heap.size := blk_lt hbox
              have hfW : f < W.heap.size := hrw.lt
              have HRW : Hid (W.rowIs f 204 4 (fun j => .int .i64 (freeAt p S i j))) := hrw
              have z0 : ∀ g : Grown W, g.val.cell? ⟨wr.heap.size, 0, none⟩ = some (.int .i64 (S i).who) := fun g => (g.bel.cell hsW).trans (blk_cell hbox 0 _ rfl)
              have z1 : ∀ g : Grown W, g.val.cell? ⟨wr.heap.size, 1, none⟩ = some (.int .i64 (S i).ln) := fun g => (g.bel.cell hsW).trans (blk_cell hbox 1 _ rfl)
              have z2 : ∀ g : Grown W, g.val.cell? ⟨wr.heap.size, 2, none⟩ = some (.int .i64 (S i).len) := fun g => (g.bel.cell hsW).trans (blk_cell hbox 2 _ rfl)
              have z3 : ∀ g : Grown W, g.val.cell? ⟨wr.heap.size, 3, none⟩ = some (.int .i64 (S i).hei) := fun g => (g.bel.cell hsW).trans (blk_cell hbox 3 _ rfl)
              have y0 : ∀ g : Grown W, g.val.cell? ⟨f, 0, none⟩ = some (.int .i64 (freeAt p S i 0)) := fun g => (g.bel.cell hfW).trans (hrw.cell (i := 0) (by omega))
              have y1 : ∀ g : Grown W, g.val.cell? ⟨f, 1, none⟩ = some (.int .i64 (freeAt p S i 1)) := fun g => (g.bel.cell hfW).trans (hrw.cell (i := 1) (by omega))
              have y2 : ∀ g : Grown W, g.val.cell? ⟨f, 2, none⟩ = some (.int .i64 (freeAt p S i 2)) := fun g => (g.bel.cell hfW).trans (hrw.cell (i := 2) (by omega))
              have y3 : ∀ g : Grown W, g.val.cell? ⟨f, 3, none⟩ = some (.int .i64 (freeAt p S i 3)) := fun g => (g.bel.cell hfW).trans (hrw.cell (i := 3) (by omega))
              have i1 : (0 : Int) ≤ (i : Int) := by omega
              have i2 : (i : Int) ≤ (c : Int) := by omega
              clear c0 c1 c2 c3 hbox hrow2 hr2 hbel2 hrw
              by_cases hh : Has (whoS S) i (S i).who
              · have e1 : decide (0 ≤ ixAns (whoS S) (S i).who i) = true := decide_eq_true ((ixAns_has _ _ _).2 hh)
                have HH : Hid (Has (whoS S) i (S i).who) := hh
                clear hh
                refine wp_region_grow (by kernel_rfl) (by kernel_rfl) ?_
                repeat (first | go_big_quiet_skip | (go_big_quiet_want; go_big_quiet_op; first | go_big_quiet_on | (apply Exists.intro; refine ⟨fun g => ?_, ?_⟩; (focus (first | (go_at_call 124; refine grown_call (v := .int .i64 (ixAns (whoS S) (S i).who i)) ((stayOf_any _ i c S (S i).who _ (by omega) ((HZ.out.upto (by omega)).below (after hbx g.bel))).mono ?_); rintro e w4 ⟨rfl, hbb⟩; exact ⟨rfl, hbb⟩))); go_big_quiet_on)))
                refine wpQuiet_nil ?_
                rintro _ ⟨g, rfl⟩
                have rg := blk_below hrx g.bel
                have o0 := blk_cell rg 0 _ rfl
                have o1 := blk_cell rg 1 _ rfl
                have o2 := blk_cell rg 2 _ rfl
                have o3 := blk_cell rg 3 _ rfl
                have f0 := blk_free rg 0
                have f1 := blk_free rg 1
                have f2 := blk_free rg 2
                have f3 := blk_free rg 3
                go_wp2
                have rF := four_set rg (.int .i64 0) (.int .i64 0) (.int .i64 0) (.int .i64 0)
                have q0 := blk_cell rF 0 _ rfl
                have q1 := blk_cell rF 1 _ rfl
                have q2 := blk_cell rF 2 _ rfl
                have q3 := blk_cell rF 3 _ rfl
                exact bodyPost_ret (v := .tuple #[four (fun _ => 0), .bool false]) (by simp [results, Tryz.results144, go_sem, q0, q1, q2, q3, four]) rfl ⟨.inr ⟨fun h => (h.2.2 i hlt2).1 HH.out, rfl⟩, four_below (after hbx g.bel) (Nat.le_refl _) _ _ _ _⟩
              · have e1 : decide (0 ≤ ixAns (whoS S) (S i).who i) = false := decide_eq_false (fun h => hh ((ixAns_has _ _ _).1 h))
                have HH : Hid (¬ Has (whoS S) i (S i).who) := hh
                clear hh
                by_cases hfit : Fits p (freeAt p S i) (S i)
                · have HF : Hid (Fits p (freeAt p S i) (S i)) := hfit
                  clear hfit
                  refine wp_region_grow (by kernel_rfl) (by kernel_rfl) ?_
                  repeat (first | go_big_quiet_skip | (go_big_quiet_want; go_big_quiet_op; first | go_big_quiet_on | (apply Exists.intro; refine ⟨fun g => ?_, ?_⟩; (focus (first | (go_at_call 124; refine grown_call (v := .int .i64 (ixAns (whoS S) (S i).who i)) ((stayOf_any _ i c S (S i).who _ (by omega) ((HZ.out.upto (by omega)).below (after hbx g.bel))).mono ?_); rintro e w4 ⟨rfl, hbb⟩; exact ⟨rfl, hbb⟩) | (go_at_call 167; refine grown_call (v := .bool true) ((fitsOn_any _ _ mc p (freeAt p S i) (S i).who (S i).ln (S i).len (S i).hei _ HL.out hm4 (HX.out.below (after hbx g.bel))).mono ?_); rintro e w4 ⟨⟨bb, rfl, hi⟩, hbb⟩; obtain rfl := hi.2 HF.out; exact ⟨rfl, hbb⟩))); go_big_quiet_on)))
                  refine wpQuiet_nil ?_
                  rintro _ ⟨g, rfl⟩
                  obtain ⟨l, hl⟩ : ∃ l : Nat, (S i).ln = l := ⟨(S i).ln.toNat, by have := HF.out.ln; unfold In at this; omega⟩
                  have hlm : l < p.n := by have := HF.out.ln; unfold In at this; omega
                  have HLN : Hid ((S i).ln = l) := hl
                  have l4 : l < 4 := by have := HL.out; omega
                  have v1 : g.val.cell? ⟨wr.heap.size, 1, none⟩ = some (.int .i64 (l : Int)) := by rw [z1 g, hl]
                  have v2 := z2 g
                  have rwg := row_below HRW.out g.bel
                  have v3 := rwg.cell (i := l) l4
                  have v4 := rwg.frozen l
                  have l1 : (0 : Int) ≤ (l : Int) := by omega
                  have l2 : (l : Int) < 4 := by omega
                  have HB : Hid (-120000 ≤ freeAt p S i l ∧ freeAt p S i l ≤ 5000) := freeAt_bounds l HG.out (by omega) (fun j hj => (HA.out j hj).2.len)
                  have HN : Hid (In (S i).len 1 2000) := HF.out.len
                  have hwr : IntKind.i64.wrap (freeAt p S i l - (S i).len) = freeAt p S i l - (S i).len := by
                    have h1 := HB.out
                    have h2 := HN.out
                    unfold In at h2
                    rw [IntKind.wrap_i64]; omega
                  have HRG : Hid (g.val.heap[w.heap.size]? = some (.cells #[.int .i64 0, .int .i64 0, .int .i64 0, .int .i64 0] 204 (0, 0))) := blk_below hrx g.bel
                  have HBG : Hid (Below w.heap.size w g.val) := after hbx g.bel
                  have HRO : Hid (g.val.rowIs f 204 4 (fun j => .int .i64 (freeAt p S i j))) := rwg
                  clear hl rwg z0 z1 z2 z3 y0 y1 y2 y3 hrx hbx
                  generalize g.val = G at *
                  go_upto_region 14 with fail
                  have hrowF : Hid ((G.setCell ⟨f, l, none⟩ (.int .i64 (freeAt p S i l - (S i).len))).drew.rowIs f 204 4 (fun j => .int .i64 (freeAt p S (i + 1) j))) := by
                    refine (HRO.out.set l _).congr (fun j _ => ?_)
                    rw [← freeAt_step p S i l j hlm HLN.out]
                    split <;> rfl
                  have hrF : Hid ((G.setCell ⟨f, l, none⟩ (.int .i64 (freeAt p S i l - (S i).len))).drew.heap[w.heap.size]? = some (.cells #[.int .i64 0, .int .i64 0, .int .i64 0, .int .i64 0] 204 (0, 0))) := blk_drew (blk_set_other HRG.out _ _ (by omega))
                  have hbF : Hid (Below w.heap.size w (G.setCell ⟨f, l, none⟩ (.int .i64 (freeAt p S i l - (S i).len))).drew) := (HBG.out.setCell (by show w.heap.size ≤ f; omega) _).drew
                  have HAN : Hid (∀ j, j < i + 1 → ¬ Has (whoS S) j (S j).who ∧ Fits p (left p S j) (S j)) := fun j hj => by
                    by_cases e : j = i
                    · subst e; exact ⟨HH.out, fits_free.1 HF.out⟩
                    · exact HA.out j (by omega)
                  clear HH HF HA HLN HRG HBG HRO HB HN HRW
                  go_region
                  all_goals (go_wp2; go_roundw)
                  all_goals first | (exact ⟨i + 1, by omega, by go_num, HAN.out, hrowF.out, hrF.out, hbF.out⟩) | (simp [intOf]; omega)
                · have HF : Hid (¬ Fits p (freeAt p S i) (S i)) := hfit
                  clear hfit
                  refine wp_region_grow (by kernel_rfl) (by kernel_rfl) ?_
                  repeat (first | go_big_quiet_skip | (go_big_quiet_want; go_big_quiet_op; first | go_big_quiet_on | (apply Exists.intro; refine ⟨fun g => ?_, ?_⟩; (focus (first | (go_at_call 124; refine grown_call (v := .int .i64 (ixAns (whoS S) (S i).who i)) ((stayOf_any _ i c S (S i).who _ (by omega) ((HZ.out.upto (by omega)).below (after hbx g.bel))).mono ?_); rintro e w4 ⟨rfl, hbb⟩; exact ⟨rfl, hbb⟩) | (go_at_call 167; refine grown_call (v := .bool false) ((fitsOn_any _ _ mc p (freeAt p S i) (S i).who (S i).ln (S i).len (S i).hei _ HL.out hm4 (HX.out.below (after hbx g.bel))).mono ?_); rintro e w4 ⟨⟨bb, rfl, hi⟩, hbb⟩; obtain rfl := Bool.eq_false_iff.2 (fun e => HF.out (hi.1 e)); exact ⟨rfl, hbb⟩))); go_big_quiet_on)))
                  refine wpQuiet_nil ?_
                  rintro _ ⟨g, rfl⟩
                  have rg := blk_below hrx g.bel
                  have o0 := blk_cell rg 0 _ rfl
                  have o1 := blk_cell rg 1 _ rfl
                  have o2 := blk_cell rg 2 _ rfl
                  have o3 := blk_cell rg 3 _ rfl
                  have f0 := blk_free rg 0
                  have f1 := blk_free rg 1
                  have f2 := blk_free rg 2
                  have f3 := blk_free rg 3
                  go_wp2
                  have rF := four_set rg (.int .i64 0) (.int .i64 0) (.int .i64 0) (.int .i64 0)
                  have q0 := blk_cell rF 0 _ rfl
                  have q1 := blk_cell rF 1 _ rfl
                  have q2 := blk_cell rF 2 _ rfl
                  have q3 := blk_cell rF 3 _ rfl
                  exact bodyPost_ret (v := .tuple #[four (fun _ => 0), .bool false]) (by simp [results, Tryz.results144, go_sem, q0, q1, q2, q3, four]) rfl ⟨.inr ⟨fun h => HF.out (fits_free.2 (h.2.2 i hlt2).2), rfl⟩, four_below (after hbx g.bel) (Nat.le_refl _) _ _ _ _⟩
            · obtain rfl : i = n := by omega
              have o0 := blk_cell hr2 0 _ rfl
              have o1 := blk_cell hr2 1 _ rfl
              have o2 := blk_cell hr2 2 _ rfl
              have o3 := blk_cell hr2 3 _ rfl
              have f0 := blk_free hr2 0
              have f1 := blk_free hr2 1
              have f2 := blk_free hr2 2
              have f3 := blk_free hr2 3
              have c0 := hrow2.cell (i := 0) (by omega)
              have c1 := hrow2.cell (i := 1) (by omega)
              have c2 := hrow2.cell (i := 2) (by omega)
              have c3 := hrow2.cell (i := 3) (by omega)
              go_wp2
              have rF := four_set hr2 (.int .i64 (freeAt p S i 0)) (.int .i64 (freeAt p S i 1)) (.int .i64 (freeAt p S i 2)) (.int .i64 (freeAt p S i 3))
              have q0 := blk_cell rF 0 _ rfl
              have q1 := blk_cell rF 1 _ rfl
              have q2 := blk_cell rF 2 _ rfl
              have q3 := blk_cell rF 3 _ rfl
              exact bodyPost_ret (v := .tuple #[four (freeAt p S i), .bool true]) (by simp [results, Tryz.results144, go_sem, q0, q1, q2, q3, four]) rfl ⟨.inl ⟨⟨HG.out, h60, HA.out⟩, rfl⟩, four_below hbel2 (Nat.le_refl _) _ _ _ _⟩
    · have d0 : decide (60 < n) = true := by simp; omega
      have o0 := blk_cell r1 0 _ rfl
      have o1 := blk_cell r1 1 _ rfl
      have o2 := blk_cell r1 2 _ rfl
      have o3 := blk_cell r1 3 _ rfl
      have f0 := blk_free r1 0
      have f1 := blk_free r1 1
      have f2 := blk_free r1 2
      have f3 := blk_free r1 3
      go_wp2
      have rF := four_set r1 (.int .i64 0) (.int .i64 0) (.int .i64 0) (.int .i64 0)
      have q0 := blk_cell rF 0 _ rfl
      have q1 := blk_cell rF 1 _ rfl
      have q2 := blk_cell rF 2 _ rfl
      have q3 := blk_cell rF 3 _ rfl
      exact bodyPost_ret (v := .tuple #[four (fun _ => 0), .bool false]) (by simp [results, Tryz.results144, go_sem, q0, q1, q2, q3, four]) rfl ⟨.inr ⟨fun h => h60 h.2.1, rfl⟩, four_below bw1 (Nat.le_refl _) _ _ _ _⟩
end Go.Proofs.YtlelckbeoclhbaaGreat

namespace Go.Proofs.YtlelckbeoclhbaaGreat
open Go.RowKit
theorem implDeck_any (ao bo : Option Addr) (m mc n c : Nat) (p : Pairs) (S : Nat → Stay) (w : World) (hl : p.n = m) (hm : m ≤ 1048576) (hn : n ≤ 1048576) (hc : n ≤ c) (hx : PairsAt w ao p) (hz : StaysAt w bo n S) :
    Calls Tryz.prog 107 #[.slice ao m mc, .slice bo n c] w fun e w' => SaysIf (DeckI p n S) e ∧ Below w.heap.size w w' := by
  have HX : Hid (PairsAt w ao p) := hx
  have HZ : Hid (StaysAt w bo n S) := hz
  have HL : Hid (p.n = m) := hl
  clear hx hz hl
  go_enter Tryz.func107, Tryz.ntmps107
  go_wp2_with fail
  refine (freeOnDeck_any ao bo m mc n c p S _ HL.out hm hn hc HX.out HZ.out).mono ?_
  rintro e w1 ⟨hans, hb1⟩
  unfold FreeAns four at hans
  rcases hans with ⟨hd, rfl⟩ | ⟨hd, rfl⟩
  · have HD : Hid (DeckI p n S) := hd
    clear hd
    go_wp2
    go_ret
    exact ⟨says_yes HD.out, push hb1 _⟩
  · have HD : Hid (¬ DeckI p n S) := hd
    clear hd
    go_wp2
    go_ret
    exact ⟨says_no HD.out, push hb1 _⟩
end Go.Proofs.YtlelckbeoclhbaaGreat
