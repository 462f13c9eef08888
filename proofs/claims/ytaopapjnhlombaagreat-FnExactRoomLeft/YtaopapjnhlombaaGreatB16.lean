/-
  OWN TEXT: SpecBk, SpecHas, Plain3.
-/
import Derived.Deep.LoopGhost
import Derived.Deep.DeepCutAuto
import Derived.Test.YtaopapjnhlombaaGreatRows
import Derived.Deep.RegionHeld3
import Derived.Test.YtaopapjnhlombaaGreatB12
import Derived.Test.YtaopapjnhlombaaGreatB13
import Derived.Test.YtaopapjnhlombaaGreatB14
import Derived.Test.YtaopapjnhlombaaGreatB15
import Derived.Test.YtaopapjnhlombaaGreatB00
import Derived.Test.YtaopapjnhlombaaGreatB01
namespace Go.Proofs.YtaopapjnhlombaaGreat
open Go.RowKit

set_option maxHeartbeats 6400000 in
set_option maxRecDepth 100000 in
theorem l7Booking_raw (x : Off) (asa ald : Option Addr) (bb bo csa cld cbk : Nat) (i : Nat) (C : Nat → List Value) (w : World) (hi : i < x.bkn) (hs : Off.Short x 1048576)
    (hsa : SailsAt w asa x.san x.sa) (hC : RecsAt w (some ⟨bb, bo, none⟩) x.bkn 13 C) (hI : ∀ k, k < x.bkn → Book.Is w (C k) (x.bk k)) (hcb : x.bkn ≤ cbk) :
    Calls Tryz.prog 58 #[.agg #[.slice asa x.san csa, .slice ald x.ldn cld, .slice (some ⟨bb, bo, none⟩) x.bkn cbk], .int .i64 i] w fun e w' => SaysIf (BookOk x i) e ∧ Below w.heap.size w w' := by
  have HSA : Hid (SailsAt w asa x.san x.sa) := hsa
  have HC : Hid (RecsAt w (some ⟨bb, bo, none⟩) x.bkn 13 C) := hC
  have HI : Hid (∀ k, k < x.bkn → Book.Is w (C k) (x.bk k)) := hI
  have HSH : Hid (Off.Short x 1048576) := hs
  have hbk : x.bkn ≤ 1048576 := hs.2.2.1
  clear hsa hC hI hs
  obtain ⟨b0, off0, e0, hc⟩ := HC.out i hi
  simp only [Option.some.injEq, Addr.mk.injEq, and_true] at e0
  obtain ⟨rfl, rfl⟩ := e0
  obtain ⟨alg, clg, eC, hlg, slg⟩ := HI.out i hi
  obtain ⟨b, hb⟩ : ∃ b, b = x.bk i := ⟨_, rfl⟩
  rw [← hb] at eC hlg slg
  have HBK : Hid (b = x.bk i) := hb
  have HLG : Hid (IntsAt w alg b.lgn b.lg) := hlg
  have HSB : Hid (Book.Short b 1048576) := by rw [hb]; exact HSH.out.2.2.2 i hi
  have hltb : bb < w.heap.size := World.block_lt_of_cell? w _ (hc 0 (by decide))
  have g0 : w.cell? ⟨bb, bo + i * 13, none⟩ = some (.int .i64 b.name) := by have := hc 0 (by decide); rw [eC] at this; exact this
  have g1 : w.cell? ⟨bb, bo + i * 13 + 1, none⟩ = some (.int .i64 b.who) := by have := hc 1 (by decide); rw [eC] at this; exact this
  have g2 : w.cell? ⟨bb, bo + i * 13 + 2, none⟩ = some (.string b.own) := by have := hc 2 (by decide); rw [eC] at this; exact this
  have g3 : w.cell? ⟨bb, bo + i * 13 + 3, none⟩ = some (.slice alg b.lgn clg) := by have := hc 3 (by decide); rw [eC] at this; exact this
  have g4 : w.cell? ⟨bb, bo + i * 13 + 4, none⟩ = some (.int .i64 b.pe) := by have := hc 4 (by decide); rw [eC] at this; exact this
  have g5 : w.cell? ⟨bb, bo + i * 13 + 5, none⟩ = some (.int .i64 b.len) := by have := hc 5 (by decide); rw [eC] at this; exact this
  have g6 : w.cell? ⟨bb, bo + i * 13 + 6, none⟩ = some (.int .i64 b.hei) := by have := hc 6 (by decide); rw [eC] at this; exact this
  have g7 : w.cell? ⟨bb, bo + i * 13 + 7, none⟩ = some (.int .i64 b.cl) := by have := hc 7 (by decide); rw [eC] at this; exact this
  have g8 : w.cell? ⟨bb, bo + i * 13 + 8, none⟩ = some (.bool b.all) := by have := hc 8 (by decide); rw [eC] at this; exact this
  have g9 : w.cell? ⟨bb, bo + i * 13 + 9, none⟩ = some (.int .i64 b.be) := by have := hc 9 (by decide); rw [eC] at this; exact this
  have g10 : w.cell? ⟨bb, bo + i * 13 + 10, none⟩ = some (.int .i64 b.state) := by have := hc 10 (by decide); rw [eC] at this; exact this
  have g11 : w.cell? ⟨bb, bo + i * 13 + 11, none⟩ = some (.int .i64 b.unt) := by have := hc 11 (by decide); rw [eC] at this; exact this
  have g12 : w.cell? ⟨bb, bo + i * 13 + 12, none⟩ = some (.int .i64 b.price) := by have := hc 12 (by decide); rw [eC] at this; exact this
  have hb0 : Below w.heap.size w (w.alloc (.cells #[.slice asa x.san csa, .slice ald x.ldn cld, .slice (some ⟨bb, bo, none⟩) x.bkn cbk] 35)) := push (Below.refl _ _) _
  have bO := heap_alloc_new w (.cells #[.slice asa x.san csa, .slice ald x.ldn cld, .slice (some ⟨bb, bo, none⟩) x.bkn cbk] 35)
  have c0 : ∀ o, (w.alloc o).cell? ⟨bb, bo + i * 13, none⟩ = some (.int .i64 b.name) := fun o => ((push (Below.refl _ w) o).cell (p := ⟨bb, bo + i * 13, none⟩) hltb).trans g0
  have c1 : ∀ o, (w.alloc o).cell? ⟨bb, bo + i * 13 + 1, none⟩ = some (.int .i64 b.who) := fun o => ((push (Below.refl _ w) o).cell (p := ⟨bb, bo + i * 13 + 1, none⟩) hltb).trans g1
  have c2 : ∀ o, (w.alloc o).cell? ⟨bb, bo + i * 13 + 2, none⟩ = some (.string b.own) := fun o => ((push (Below.refl _ w) o).cell (p := ⟨bb, bo + i * 13 + 2, none⟩) hltb).trans g2
  have c3 : ∀ o, (w.alloc o).cell? ⟨bb, bo + i * 13 + 3, none⟩ = some (.slice alg b.lgn clg) := fun o => ((push (Below.refl _ w) o).cell (p := ⟨bb, bo + i * 13 + 3, none⟩) hltb).trans g3
  have c4 : ∀ o, (w.alloc o).cell? ⟨bb, bo + i * 13 + 4, none⟩ = some (.int .i64 b.pe) := fun o => ((push (Below.refl _ w) o).cell (p := ⟨bb, bo + i * 13 + 4, none⟩) hltb).trans g4
  have c5 : ∀ o, (w.alloc o).cell? ⟨bb, bo + i * 13 + 5, none⟩ = some (.int .i64 b.len) := fun o => ((push (Below.refl _ w) o).cell (p := ⟨bb, bo + i * 13 + 5, none⟩) hltb).trans g5
  have c6 : ∀ o, (w.alloc o).cell? ⟨bb, bo + i * 13 + 6, none⟩ = some (.int .i64 b.hei) := fun o => ((push (Below.refl _ w) o).cell (p := ⟨bb, bo + i * 13 + 6, none⟩) hltb).trans g6
  have c7 : ∀ o, (w.alloc o).cell? ⟨bb, bo + i * 13 + 7, none⟩ = some (.int .i64 b.cl) := fun o => ((push (Below.refl _ w) o).cell (p := ⟨bb, bo + i * 13 + 7, none⟩) hltb).trans g7
  have c8 : ∀ o, (w.alloc o).cell? ⟨bb, bo + i * 13 + 8, none⟩ = some (.bool b.all) := fun o => ((push (Below.refl _ w) o).cell (p := ⟨bb, bo + i * 13 + 8, none⟩) hltb).trans g8
  have c9 : ∀ o, (w.alloc o).cell? ⟨bb, bo + i * 13 + 9, none⟩ = some (.int .i64 b.be) := fun o => ((push (Below.refl _ w) o).cell (p := ⟨bb, bo + i * 13 + 9, none⟩) hltb).trans g9
  have c10 : ∀ o, (w.alloc o).cell? ⟨bb, bo + i * 13 + 10, none⟩ = some (.int .i64 b.state) := fun o => ((push (Below.refl _ w) o).cell (p := ⟨bb, bo + i * 13 + 10, none⟩) hltb).trans g10
  have c11 : ∀ o, (w.alloc o).cell? ⟨bb, bo + i * 13 + 11, none⟩ = some (.int .i64 b.unt) := fun o => ((push (Below.refl _ w) o).cell (p := ⟨bb, bo + i * 13 + 11, none⟩) hltb).trans g11
  have c12 : ∀ o, (w.alloc o).cell? ⟨bb, bo + i * 13 + 12, none⟩ = some (.int .i64 b.price) := fun o => ((push (Below.refl _ w) o).cell (p := ⟨bb, bo + i * 13 + 12, none⟩) hltb).trans g12
  clear hc eC hlg slg hb g0 g1 g2 g3 g4 g5 g6 g7 g8 g9 g10 g11 g12
  have hwi : IntKind.i64.wrap ((i : Int) + 1) = (i : Int) + 1 := by rw [IntKind.wrap_i64]; omega
  have hi0 : (0 : Int) ≤ (i : Int) := by omega
  have hi1 : (i : Int) < (x.bkn : Int) := by omega
  have hb1 : Below w.heap.size w ((w.alloc (.cells #[.slice asa x.san csa, .slice ald x.ldn cld, .slice (some ⟨bb, bo, none⟩) x.bkn cbk] 35)).alloc (.cells #[.int .i64 b.name, .int .i64 b.who, .string b.own, .slice alg b.lgn clg, .int .i64 b.pe, .int .i64 b.len, .int .i64 b.hei, .int .i64 b.cl, .bool b.all, .int .i64 b.be, .int .i64 b.state, .int .i64 b.unt, .int .i64 b.price] 87)) := push hb0 _
  have bO1 : ((w.alloc (.cells #[.slice asa x.san csa, .slice ald x.ldn cld, .slice (some ⟨bb, bo, none⟩) x.bkn cbk] 35)).alloc (.cells #[.int .i64 b.name, .int .i64 b.who, .string b.own, .slice alg b.lgn clg, .int .i64 b.pe, .int .i64 b.len, .int .i64 b.hei, .int .i64 b.cl, .bool b.all, .int .i64 b.be, .int .i64 b.state, .int .i64 b.unt, .int .i64 b.price] 87)).heap[w.heap.size]? = some (.cells #[.slice asa x.san csa, .slice ald x.ldn cld, .slice (some ⟨bb, bo, none⟩) x.bkn cbk] 35 (0, 0)) := blk_alloc bO _
  have bB1 : ((w.alloc (.cells #[.slice asa x.san csa, .slice ald x.ldn cld, .slice (some ⟨bb, bo, none⟩) x.bkn cbk] 35)).alloc (.cells #[.int .i64 b.name, .int .i64 b.who, .string b.own, .slice alg b.lgn clg, .int .i64 b.pe, .int .i64 b.len, .int .i64 b.hei, .int .i64 b.cl, .bool b.all, .int .i64 b.be, .int .i64 b.state, .int .i64 b.unt, .int .i64 b.price] 87)).heap[w.heap.size + 1]? = some (.cells #[.int .i64 b.name, .int .i64 b.who, .string b.own, .slice alg b.lgn clg, .int .i64 b.pe, .int .i64 b.len, .int .i64 b.hei, .int .i64 b.cl, .bool b.all, .int .i64 b.be, .int .i64 b.state, .int .i64 b.unt, .int .i64 b.price] 87 (0, 0)) := by simpa using heap_alloc_new (w.alloc _) _
  clear hb0 bO
  by_cases n1 : b.name = (i : Int) + 1
  case neg =>
    have e1 : (b.name != (i : Int) + 1) = true := by simpa using n1
    have HN : Hid (¬ BookOk x i) := fun h => n1 (by rw [HBK.out]; exact h.1)
    clear n1
    go_enter Tryz.func58, Tryz.ntmps58
    go_wp2
    go_ret
    exact ⟨says_no HN.out, hb1⟩
  have e1 : (b.name != (i : Int) + 1) = false := by simpa using n1
  have HB1 : Hid (b.name = (i : Int) + 1) := n1
  clear n1
  go_enter Tryz.func58, Tryz.ntmps58
  go_wp2_with fail
  generalize (w.alloc (.cells #[.slice asa x.san csa, .slice ald x.ldn cld, .slice (some ⟨bb, bo, none⟩) x.bkn cbk] 35)).alloc (.cells #[.int .i64 b.name, .int .i64 b.who, .string b.own, .slice alg b.lgn clg, .int .i64 b.pe, .int .i64 b.len, .int .i64 b.hei, .int .i64 b.cl, .bool b.all, .int .i64 b.be, .int .i64 b.state, .int .i64 b.unt, .int .i64 b.price] 87) = W at hb1 bO1 bB1 ⊢
  clear c0 c1 c2 c3 c4 c5 c6 c7 c8 c9 c10 c11 c12 e1 hwi
  have y0 := blk_cell bB1 0 _ rfl
  have y1 := blk_cell bB1 1 _ rfl
  have y2 := blk_cell bB1 2 _ rfl
  have y3 := blk_cell bB1 3 _ rfl
  have y4 := blk_cell bB1 4 _ rfl
  have y5 := blk_cell bB1 5 _ rfl
  have y6 := blk_cell bB1 6 _ rfl
  have y7 := blk_cell bB1 7 _ rfl
  have y8 := blk_cell bB1 8 _ rfl
  have y9 := blk_cell bB1 9 _ rfl
  have y10 := blk_cell bB1 10 _ rfl
  have y11 := blk_cell bB1 11 _ rfl
  have y12 := blk_cell bB1 12 _ rfl
  have z0 := blk_cell bO1 0 _ rfl
  have z2 := blk_cell bO1 2 _ rfl
  refine (l4By_is _ _).mono ?_
  obtain ⟨t0, ht0⟩ : ∃ t, t = decide (In b.who 1 9999) := ⟨_, rfl⟩
  rw [← ht0]
  have HT0 : Hid (t0 = true ↔ In b.who 1 9999) := by show t0 = true ↔ In b.who 1 9999; rw [ht0, decide_eq_true_eq]
  clear ht0
  rintro e v ⟨rfl, hv⟩
  have hv := hv.symm
  subst hv
  cases t0 with
  | false =>
    have HN : Hid (¬ BookOk x i) := fun h => by have h := (show BookOk x i from h); unfold BookOk at h; rw [← HBK.out] at h; have := HT0.out.2 h.2.1; cases this
    go_wp2
    go_ret
    exact ⟨says_no HN.out, hb1⟩
  | true =>
  have HP0 : Hid (In b.who 1 9999) := HT0.out.1 rfl
  clear HT0
  go_wp2_with fail
  refine (l1Name_is _ _ (by have := HSB.out.1; omega)).mono ?_
  obtain ⟨t1, ht1⟩ : ∃ t, t = decide (IsName b.own) := ⟨_, rfl⟩
  rw [← ht1]
  have HT1 : Hid (t1 = true ↔ IsName b.own) := by show t1 = true ↔ IsName b.own; rw [ht1, decide_eq_true_eq]
  clear ht1
  rintro e v ⟨rfl, hv⟩
  have hv := hv.symm
  subst hv
  cases t1 with
  | false =>
    have HN : Hid (¬ BookOk x i) := fun h => by have h := (show BookOk x i from h); unfold BookOk at h; rw [← HBK.out] at h; have := HT1.out.2 h.2.2.1; cases this
    go_wp2
    go_ret
    exact ⟨says_no HN.out, hb1⟩
  | true =>
  have HP1 : Hid (IsName b.own) := HT1.out.1 rfl
  clear HT1
  go_wp2_with fail
  refine (l3Fit_any asa alg x.san b.lgn csa clg x.sa b.lg _ HSH.out.1.1 HSB.out.2 (HSA.out.below hb1) (HLG.out.below hb1)).mono ?_
  rintro e v2 ⟨⟨t2, rfl, ht2⟩, hbv⟩
  have HT2 : Hid (t2 = true ↔ LegsOk x.san x.sa b.lgn b.lg) := ht2
  clear ht2
  have bO2 := blk_below bO1 hbv
  have bB2 := blk_below bB1 hbv
  have hb2 := after hb1 hbv
  clear y0 y1 y2 y3 y4 y5 y6 y7 y8 y9 y10 y11 y12 z0 z2 hb1 bO1 bB1 hbv
  have hb1 := hb2
  have bO1 := bO2
  have bB1 := bB2
  clear hb2 bO2 bB2
  have y0 := blk_cell bB1 0 _ rfl
  have y1 := blk_cell bB1 1 _ rfl
  have y2 := blk_cell bB1 2 _ rfl
  have y3 := blk_cell bB1 3 _ rfl
  have y4 := blk_cell bB1 4 _ rfl
  have y5 := blk_cell bB1 5 _ rfl
  have y6 := blk_cell bB1 6 _ rfl
  have y7 := blk_cell bB1 7 _ rfl
  have y8 := blk_cell bB1 8 _ rfl
  have y9 := blk_cell bB1 9 _ rfl
  have y10 := blk_cell bB1 10 _ rfl
  have y11 := blk_cell bB1 11 _ rfl
  have y12 := blk_cell bB1 12 _ rfl
  have z0 := blk_cell bO1 0 _ rfl
  have z2 := blk_cell bO1 2 _ rfl
  cases t2 with
  | false =>
    have HN : Hid (¬ BookOk x i) := fun h => by have h := (show BookOk x i from h); unfold BookOk at h; rw [← HBK.out] at h; have := HT2.out.2 h.2.2.2.1; cases this
    go_wp2
    go_ret
    exact ⟨says_no HN.out, hb1⟩
  | true =>
  have HP2 : Hid (LegsOk x.san x.sa b.lgn b.lg) := HT2.out.1 rfl
  clear HT2
  go_wp2_with fail
  refine (specParty_any b.pe b.len b.hei b.cl b.all b.be _).mono ?_
  rintro e v3 ⟨⟨t3, rfl, ht3⟩, hbv⟩
  have HT3 : Hid (t3 = true ↔ PartyOk b.p) := ht3
  clear ht3
  have bO2 := blk_below bO1 hbv
  have bB2 := blk_below bB1 hbv
  have hb2 := after hb1 hbv
  clear y0 y1 y2 y3 y4 y5 y6 y7 y8 y9 y10 y11 y12 z0 z2 hb1 bO1 bB1 hbv
  have hb1 := hb2
  have bO1 := bO2
  have bB1 := bB2
  clear hb2 bO2 bB2
  have y0 := blk_cell bB1 0 _ rfl
  have y1 := blk_cell bB1 1 _ rfl
  have y2 := blk_cell bB1 2 _ rfl
  have y3 := blk_cell bB1 3 _ rfl
  have y4 := blk_cell bB1 4 _ rfl
  have y5 := blk_cell bB1 5 _ rfl
  have y6 := blk_cell bB1 6 _ rfl
  have y7 := blk_cell bB1 7 _ rfl
  have y8 := blk_cell bB1 8 _ rfl
  have y9 := blk_cell bB1 9 _ rfl
  have y10 := blk_cell bB1 10 _ rfl
  have y11 := blk_cell bB1 11 _ rfl
  have y12 := blk_cell bB1 12 _ rfl
  have z0 := blk_cell bO1 0 _ rfl
  have z2 := blk_cell bO1 2 _ rfl
  cases t3 with
  | false =>
    have HN : Hid (¬ BookOk x i) := fun h => by have h := (show BookOk x i from h); unfold BookOk at h; rw [← HBK.out] at h; have := HT3.out.2 h.2.2.2.2.1; cases this
    go_wp2
    go_ret
    exact ⟨says_no HN.out, hb1⟩
  | true =>
  have HP3 : Hid (PartyOk b.p) := HT3.out.1 rfl
  clear HT3
  go_wp2_with fail
  refine (l1In_is _ _ _ _).mono ?_
  obtain ⟨t4, ht4⟩ : ∃ t, t = decide (In b.state 1 4) := ⟨_, rfl⟩
  rw [← ht4]
  have HT4 : Hid (t4 = true ↔ In b.state 1 4) := by show t4 = true ↔ In b.state 1 4; rw [ht4, decide_eq_true_eq]
  clear ht4
  rintro e v ⟨rfl, hv⟩
  have hv := hv.symm
  subst hv
  cases t4 with
  | false =>
    have HN : Hid (¬ BookOk x i) := fun h => by have h := (show BookOk x i from h); unfold BookOk at h; rw [← HBK.out] at h; have := HT4.out.2 h.2.2.2.2.2.1; cases this
    go_wp2
    go_ret
    exact ⟨says_no HN.out, hb1⟩
  | true =>
  have HP4 : Hid (In b.state 1 4) := HT4.out.1 rfl
  clear HT4
  go_wp2_with fail
  refine (l1In_is _ _ _ _).mono ?_
  obtain ⟨t5, ht5⟩ : ∃ t, t = decide (In b.price 0 1000000) := ⟨_, rfl⟩
  rw [← ht5]
  have HT5 : Hid (t5 = true ↔ In b.price 0 1000000) := by show t5 = true ↔ In b.price 0 1000000; rw [ht5, decide_eq_true_eq]
  clear ht5
  rintro e v ⟨rfl, hv⟩
  have hv := hv.symm
  subst hv
  cases t5 with
  | false =>
    have HN : Hid (¬ BookOk x i) := fun h => by have h := (show BookOk x i from h); unfold BookOk at h; rw [← HBK.out] at h; have := HT5.out.2 h.2.2.2.2.2.2.1; cases this
    go_wp2
    go_ret
    exact ⟨says_no HN.out, hb1⟩
  | true =>
  have HP5 : Hid (In b.price 0 1000000) := HT5.out.1 rfl
  clear HT5
  have hcb3 : (x.bkn : Int) ≤ (cbk : Int) := by omega
  have hic : (i : Int) ≤ (cbk : Int) := by omega
  go_wp2
  clear y0 y1 y2 y3 y4 y5 y6 y7 y8 y9 y10 y11 y12 z0 z2
  go_loopw [7, 61] (fun _ q wr => ∃ k : Nat, k ≤ i ∧ q = .int .i64 k ∧ (∀ j, j < k → (x.bk j).who ≠ b.who) ∧ Below v3.heap.size v3 wr) (fun _ q _ => i - (intOf q).toNat)
  case atStart => exact ⟨0, Nat.zero_le _, rfl, fun j hj => by omega, Below.refl _ _⟩
  case round =>
    obtain ⟨k, hk, rfl, hall, hbel⟩ := hrel
    have HA : Hid (∀ j, j < k → (x.bk j).who ≠ b.who) := hall
    clear hall
    by_cases hlt : k < i
    · obtain ⟨b2, o2, e2, hc⟩ := HC.out k (by omega)
      simp only [Option.some.injEq, Addr.mk.injEq, and_true] at e2
      obtain ⟨rfl, rfl⟩ := e2
      obtain ⟨al2, cl2, eC, _, _⟩ := HI.out k (by omega)
      obtain ⟨d, hd⟩ : ∃ d, d = x.bk k := ⟨_, rfl⟩
      rw [← hd] at eC
      have HD : Hid (d = x.bk k) := hd
      clear hd
      have hbw := after hb1 hbel
      have g0 : wr.cell? ⟨bb, bo + k * 13, none⟩ = some (.int .i64 d.name) := (hbw.cell (p := ⟨bb, bo + k * 13, none⟩) hltb).trans (by have := hc 0 (by decide); rw [eC] at this; exact this)
      have g1 : wr.cell? ⟨bb, bo + k * 13 + 1, none⟩ = some (.int .i64 d.who) := (hbw.cell (p := ⟨bb, bo + k * 13 + 1, none⟩) hltb).trans (by have := hc 1 (by decide); rw [eC] at this; exact this)
      have g2 : wr.cell? ⟨bb, bo + k * 13 + 2, none⟩ = some (.string d.own) := (hbw.cell (p := ⟨bb, bo + k * 13 + 2, none⟩) hltb).trans (by have := hc 2 (by decide); rw [eC] at this; exact this)
      have g3 : wr.cell? ⟨bb, bo + k * 13 + 3, none⟩ = some (.slice al2 d.lgn cl2) := (hbw.cell (p := ⟨bb, bo + k * 13 + 3, none⟩) hltb).trans (by have := hc 3 (by decide); rw [eC] at this; exact this)
      have g4 : wr.cell? ⟨bb, bo + k * 13 + 4, none⟩ = some (.int .i64 d.pe) := (hbw.cell (p := ⟨bb, bo + k * 13 + 4, none⟩) hltb).trans (by have := hc 4 (by decide); rw [eC] at this; exact this)
      have g5 : wr.cell? ⟨bb, bo + k * 13 + 5, none⟩ = some (.int .i64 d.len) := (hbw.cell (p := ⟨bb, bo + k * 13 + 5, none⟩) hltb).trans (by have := hc 5 (by decide); rw [eC] at this; exact this)
      have g6 : wr.cell? ⟨bb, bo + k * 13 + 6, none⟩ = some (.int .i64 d.hei) := (hbw.cell (p := ⟨bb, bo + k * 13 + 6, none⟩) hltb).trans (by have := hc 6 (by decide); rw [eC] at this; exact this)
      have g7 : wr.cell? ⟨bb, bo + k * 13 + 7, none⟩ = some (.int .i64 d.cl) := (hbw.cell (p := ⟨bb, bo + k * 13 + 7, none⟩) hltb).trans (by have := hc 7 (by decide); rw [eC] at this; exact this)
      have g8 : wr.cell? ⟨bb, bo + k * 13 + 8, none⟩ = some (.bool d.all) := (hbw.cell (p := ⟨bb, bo + k * 13 + 8, none⟩) hltb).trans (by have := hc 8 (by decide); rw [eC] at this; exact this)
      have g9 : wr.cell? ⟨bb, bo + k * 13 + 9, none⟩ = some (.int .i64 d.be) := (hbw.cell (p := ⟨bb, bo + k * 13 + 9, none⟩) hltb).trans (by have := hc 9 (by decide); rw [eC] at this; exact this)
      have g10 : wr.cell? ⟨bb, bo + k * 13 + 10, none⟩ = some (.int .i64 d.state) := (hbw.cell (p := ⟨bb, bo + k * 13 + 10, none⟩) hltb).trans (by have := hc 10 (by decide); rw [eC] at this; exact this)
      have g11 : wr.cell? ⟨bb, bo + k * 13 + 11, none⟩ = some (.int .i64 d.unt) := (hbw.cell (p := ⟨bb, bo + k * 13 + 11, none⟩) hltb).trans (by have := hc 11 (by decide); rw [eC] at this; exact this)
      have g12 : wr.cell? ⟨bb, bo + k * 13 + 12, none⟩ = some (.int .i64 d.price) := (hbw.cell (p := ⟨bb, bo + k * 13 + 12, none⟩) hltb).trans (by have := hc 12 (by decide); rw [eC] at this; exact this)
      have y1 : ∀ o, (wr.alloc o).cell? ⟨w.heap.size + 1, 1, none⟩ = some (.int .i64 b.who) := fun o => blk_cell (blk_alloc (blk_below bB1 hbel) o) 1 _ rfl
      clear hc eC hbw
      by_cases e3 : d.who = b.who
      · have e3' : (d.who == b.who) = true := by simpa using e3
        have HN : Hid (¬ BookOk x i) := fun h => h.2.2.2.2.2.2.2.1 k hlt (by rw [← HD.out, ← HBK.out]; exact e3)
        clear e3
        go_wp2
        go_ret
        exact ⟨says_no HN.out, push (after hb1 hbel) _⟩
      · have e3' : (d.who == b.who) = false := by simpa using e3
        have HN : Hid ((x.bk k).who ≠ b.who) := by rw [← HD.out]; exact e3
        clear e3
        go_wp2
        go_roundw
        case rel => exact ⟨k + 1, by omega, by go_num, fun j hj => by
          by_cases e : j = k
          · subst e; exact HN.out
          · exact HA.out j (by omega), push hbel _⟩
        case measure => simp [intOf]; omega
    · obtain rfl : k = i := by omega
      have hbw := after hb1 hbel
      have y10 := blk_cell (blk_below bB1 hbel) 10 _ rfl
      have y11 := blk_cell (blk_below bB1 hbel) 11 _ rfl
      have HF : Hid (BookOk x k ↔ UntilB b) := by
        show BookOk x k ↔ UntilB b
        unfold BookOk
        rw [← HBK.out]
        exact ⟨fun h => h.2.2.2.2.2.2.2.2, fun h => ⟨HB1.out, HP0.out, HP1.out, HP2.out, HP3.out, HP4.out, HP5.out, HA.out, h⟩⟩
      clear HB1 HP0 HP1 HP2 HP3 HP4 HP5 HA hbel
      by_cases s1 : b.state = 1
      · have s1' : (b.state == 1) = true := by simpa using s1
        have HU : Hid (UntilB b ↔ In b.unt 0 10000) := by show UntilB b ↔ In b.unt 0 10000; unfold UntilB; rw [if_pos (.inl s1)]
        clear s1
        go_wp2_with (first | (go_at_call 98; refine (l1In_is _ _ _ _).mono ?_; rintro e w' ⟨rfl, hw'⟩; have hw' := hw'.symm; subst hw'))
        go_ret
        exact ⟨⟨_, rfl, by rw [decide_eq_true_eq, HF.out, HU.out]⟩, hbw⟩
      · have s1' : (b.state == 1) = false := by simpa using s1
        by_cases s4 : b.state = 4
        · have s4' : (b.state == 4) = true := by simpa using s4
          have HU : Hid (UntilB b ↔ In b.unt 0 10000) := by show UntilB b ↔ In b.unt 0 10000; unfold UntilB; rw [if_pos (.inr s4)]
          clear s1 s4
          go_wp2_with (first | (go_at_call 98; refine (l1In_is _ _ _ _).mono ?_; rintro e w' ⟨rfl, hw'⟩; have hw' := hw'.symm; subst hw'))
          go_ret
          exact ⟨⟨_, rfl, by rw [decide_eq_true_eq, HF.out, HU.out]⟩, hbw⟩
        · have s4' : (b.state == 4) = false := by simpa using s4
          have HU : Hid (UntilB b ↔ b.unt = 0) := by show UntilB b ↔ b.unt = 0; unfold UntilB; rw [if_neg (fun h => by rcases h with h | h; exact s1 h; exact s4 h)]
          clear s1 s4
          go_wp2
          go_ret
          exact ⟨⟨_, rfl, by rw [beq_iff_eq, HF.out, HU.out]⟩, hbw⟩

end Go.Proofs.YtaopapjnhlombaaGreat

namespace Go.Proofs.YtaopapjnhlombaaGreat
open Go.RowKit

set_option maxHeartbeats 400000 in
theorem l1Has_no (ao : Option Addr) (n cap : Nat) (f : Nat → Int) (x : Int) (w : World) (hn : n ≤ 1048576) (hz : IntsAt w ao n f) (hno : ∀ j, j < n → f j ≠ x) :
    Calls Tryz.prog 60 #[.slice ao n cap, .int .i64 x] w fun e w' => e = .returned (.bool false) ∧ w' = w := by
  go_enter Tryz.func60, Tryz.ntmps60
  go_wp2
  go_loop [9] (fun i => ∃ k : Nat, k ≤ n ∧ i = .int .i64 k) (fun i => n - (intOf i).toNat)
  case atStart => exact ⟨0, Nat.zero_le _, rfl⟩
  case round =>
    obtain ⟨k, hk, rfl⟩ := hrel
    by_cases hlt : k < n
    · obtain ⟨b, off, rfl, hc⟩ := hz k hlt
      have hne : (f k == x) = false := by simpa using hno k hlt
      go_wp2
      go_round
      case rel => exact ⟨k + 1, by omega, by go_num⟩
      case measure => simp [intOf]; omega
    · go_wp2
      go_ret
      exact ⟨rfl, rfl⟩

set_option maxHeartbeats 400000 in
theorem l1Has_yes (ao : Option Addr) (n cap : Nat) (f : Nat → Int) (x : Int) (w : World) (hn : n ≤ 1048576) (hz : IntsAt w ao n f) (hyes : ∃ j, j < n ∧ f j = x) :
    Calls Tryz.prog 60 #[.slice ao n cap, .int .i64 x] w fun e w' => e = .returned (.bool true) ∧ w' = w := by
  have H : Hid (∃ j, j < n ∧ f j = x) := hyes
  clear hyes
  go_enter Tryz.func60, Tryz.ntmps60
  go_wp2
  go_loop [9] (fun i => ∃ k : Nat, k ≤ n ∧ i = .int .i64 k ∧ ∀ j, j < k → f j ≠ x) (fun i => n - (intOf i).toNat)
  case atStart => exact ⟨0, Nat.zero_le _, rfl, by omega⟩
  case round =>
    obtain ⟨k, hk, rfl, hbef⟩ := hrel
    have HB : Hid (∀ j, j < k → f j ≠ x) := hbef
    clear hbef
    by_cases hlt : k < n
    · obtain ⟨b, off, rfl, hc⟩ := hz k hlt
      by_cases he : f k = x
      · have hne : (f k == x) = true := by simpa using he
        clear he
        go_wp2
        go_ret
        exact ⟨rfl, rfl⟩
      · have hne : (f k == x) = false := by simpa using he
        have HE : Hid (f k ≠ x) := he
        clear he
        go_wp2
        go_round
        case rel => exact ⟨k + 1, by omega, by go_num, fun j hj => by
          by_cases e : j = k
          · rw [e]; exact HE.out
          · exact HB.out j (by omega)⟩
        case measure => simp [intOf]; omega
    · exfalso
      obtain ⟨j, hj, e⟩ := H.out
      exact HB.out j (by omega) e

theorem l1Has_any (ao : Option Addr) (n cap : Nat) (f : Nat → Int) (x : Int) (w : World) (hn : n ≤ 1048576) (hz : IntsAt w ao n f) :
    Calls Tryz.prog 60 #[.slice ao n cap, .int .i64 x] w fun e w' => (∃ b : Bool, e = .returned (.bool b) ∧ (b = true ↔ ∃ j, j < n ∧ f j = x)) ∧ w' = w := by
  by_cases h : ∃ j, j < n ∧ f j = x
  · exact (l1Has_yes ao n cap f x w hn hz h).mono fun _ _ ⟨a, b⟩ => ⟨⟨true, a, ⟨fun _ => h, fun _ => rfl⟩⟩, b⟩
  · exact (l1Has_no ao n cap f x w hn hz (fun j hj e => h ⟨j, hj, e⟩)).mono fun _ _ ⟨a, b⟩ => ⟨⟨false, a, ⟨fun e => (by cases e), fun e => absurd e h⟩⟩, b⟩

end Go.Proofs.YtaopapjnhlombaaGreat

namespace Go.Proofs.YtaopapjnhlombaaGreat

/-- The values of the used ones among the first k slots. -/
def recs (U : Nat → Bool) (V : Nat → Int) : Nat → List Int
  | 0 => []
  | k + 1 => if U k then recs U V k ++ [V k] else recs U V k
theorem recs_yes {U : Nat → Bool} {V : Nat → Int} {k : Nat} (h : U k = true) : recs U V (k + 1) = recs U V k ++ [V k] := by rw [recs, if_pos h]
theorem recs_no {U : Nat → Bool} {V : Nat → Int} {k : Nat} (h : U k = false) : recs U V (k + 1) = recs U V k := by rw [recs, h]; rfl
theorem recs_le (U : Nat → Bool) (V : Nat → Int) (k : Nat) : (recs U V k).length ≤ k := by
  induction k with
  | zero => exact Nat.le_refl _
  | succ k ih =>
    cases h : U k with
    | true => rw [recs_yes h]; simp; exact ih
    | false => rw [recs_no h]; omega
/-- Place j of a list of numbers. -/
def getI (l : List Int) (j : Nat) : Int := l.getD j 0
/-- The cells of a list of numbers. -/
def cellsI (l : List Int) : List Value := intList (getI l) l.length
theorem cellsI_snoc (l : List Int) (x : Int) : cellsI (l ++ [x]) = cellsI l ++ [.int .i64 x] := by
  unfold cellsI
  rw [List.length_append, List.length_singleton, intList_succ]
  congr 1
  · unfold intList
    refine List.map_congr_left fun j hj => ?_
    have hj' : j < l.length := by simpa using hj
    simp [getI, List.getElem?_append_left hj']
  · simp [getI]
theorem cellsI_nil : cellsI [] = [] := rfl

end Go.Proofs.YtaopapjnhlombaaGreat
