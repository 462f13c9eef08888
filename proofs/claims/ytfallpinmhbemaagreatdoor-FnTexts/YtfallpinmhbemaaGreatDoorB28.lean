/-
  OWN TEXT: DrawOff, DrawTx, ShelfT, SpecNum, FormsI.
-/
import Derived.Deep.DeepCutAuto
import Derived.Deep.CutBlock
import Derived.Test.YtfallpinmhbemaaGreatDoorRows
import Derived.Shelf.Lay
import Derived.Shelf.Strconv.Itoa3
import Derived.Shelf.Strings.OnBuilder
import Derived.Lib.AppendIntMem
import Derived.Deep.RegionHeld3
import Derived.Test.YtfallpinmhbemaaGreatDoorB10
import Derived.Test.YtfallpinmhbemaaGreatDoorB11
import Derived.Test.YtfallpinmhbemaaGreatDoorB06
import Derived.Test.YtfallpinmhbemaaGreatDoorB12
import Derived.Test.YtfallpinmhbemaaGreatDoorB13
import Derived.Test.YtfallpinmhbemaaGreatDoorB27
import Derived.Test.YtfallpinmhbemaaGreatDoorB00
namespace Go.Proofs.YtfallpinmhbemaaGreatDoor
open Go.RowKit

/-- What the drawing of an office answers: the sailings in memory of their own, and how many bookings. -/
def DrewOff (w : World) (cb : Nat) (ao : Option Addr) (n c : Nat) (e : Ending) (w' : World) : Prop :=
  (∃ (N : Nat) (S : Nat → Sail) (a1 a2 a3 : Option Addr) (m2 m3 c1 c2 c3 : Nat) (L C : Nat → Value), e = .returned (.agg #[.slice a1 N c1, .slice a2 m2 c2, .slice a3 m3 c3]) ∧ N ≤ 7 ∧ m3 ≤ 31 ∧ OwnSails w' w.heap.size (.slice a1 N c1) N S L C) ∧ CurIs w' cb ao n c 90000000100000 ∧ Kept w w' (fun b => b = cb)
theorem cell_same {z u : World} {g k : Nat} (h : z.heap[g]? = u.heap[g]?) : z.cell? ⟨g, k, none⟩ = u.cell? ⟨g, k, none⟩ := by simp [World.cell?, h]
theorem own_ok {w : World} {base e size n c : Nat} {ao : Option Addr} {xs : List Value} (h : w.ownsRow base e size (.slice ao n c) n xs) : SliceOk ao n c := by
  obtain ⟨b, d, e, h1, h2, h3⟩ := own_form h
  cases e
  exact ⟨h1, h2, h3⟩
theorem short_up {N M : Nat} {S : Nat → Sail} (h : ShortAll N S 100) (hM : M ≤ N) : ShortAll M S 1048576 := fun i hi => by
  have g := h i (by omega)
  exact ⟨Nat.le_trans g.1 (by decide), Nat.le_trans g.2.1 (by decide), Nat.le_trans g.2.2.1 (by decide), Nat.le_trans g.2.2.2 (by decide)⟩

set_option maxHeartbeats 64000000 in
set_option maxRecDepth 100000 in
theorem office_any (cb : Nat) (ao : Option Addr) (n c a : Nat) (w : World) (ha : a ≤ 1000000000) (hn : n ≤ 1048576) (hcb : cb < w.heap.size) (HCL : Hid (CodeLow w ao n)) (h : CurX w cb ao n c a) :
    Calls Tryz.prog 30 #[.pointer (some ⟨cb, 0, none⟩)] w fun e w' => DrewOff w cb ao n c e w' := by
  have HL : Hid (LowCode w ao n) := h.is.code_lt
  have hb0 : Below w.heap.size w (w.alloc (.cells #[.slice none 0 0, .slice none 0 0, .slice none 0 0] 66)) := push (Below.refl _ _) _
  have bR := heap_alloc_new w (.cells #[.slice none 0 0, .slice none 0 0, .slice none 0 0] 66)
  have hs0 : (w.alloc (.cells #[.slice none 0 0, .slice none 0 0, .slice none 0 0] 66)).heap.size = w.heap.size + 1 := by simp
  go_enter Tryz.func30, Tryz.ntmps30
  go_wp2_with fail
  generalize w.alloc (.cells #[.slice none 0 0, .slice none 0 0, .slice none 0 0] 66) = V at hb0 bR hs0 ⊢
  have HCV : Hid (CodeLow V ao n) := fun k hk b off e => by have := HCL.out k hk b off e; omega
  refine (timetable_any cb ao n c a V ha hn (by omega) HCV (h.below hb0)).mono ?_
  rintro e w1 ⟨v, N, S, L0, C0, rfl, ⟨_, hN7⟩, HT⟩
  obtain ⟨lo, lc, rfl, _, _, _⟩ := own_form HT.out.lie.row
  clear h HCV
  have hk1 := HT.out.kept
  have bR1 := hk1.blk bR (by omega)
  go_wp2_with fail
  refine (specNewO_any lo N lc S w1 (by omega) (short_up HT.out.short (Nat.le_refl _)) HT.out.lie.at).mono ?_
  rintro e w2 ⟨⟨a1, c1, a2, c2, a3, c3, M, L, C, A, B, D, E, t, hM, rfl, hO⟩, hb2⟩
  have hs1 := hk1.size
  have hs2 := hb2.size
  have bN := heap_alloc_new w2 (.cells #[.slice a1 M c1, .slice a2 M c2, .slice a3 0 c3] 66)
  have hp3 : Below w2.heap.size w2 (w2.alloc (.cells #[.slice a1 M c1, .slice a2 M c2, .slice a3 0 c3] 66)) := push (Below.refl _ _) _
  have HF : Hid (FSit w (w2.alloc (.cells #[.slice a1 M c1, .slice a2 M c2, .slice a3 0 c3] 66)) cb ao n c 90000000000000 w2.heap.size (newOff M S) a1 a2 a3 c1 c2 c3 L C A B D E) :=
    ⟨(HT.out.cur.is.below hb2).below hp3, (((Kept.of_below hb0).trans hk1).trans (Kept.of_below hb2)).trans (Kept.of_below hp3), by omega, blk_below (blk_below bR1 hb2) hp3, bN, (hO.below hp3).lower (by omega)⟩
  have HSH : Hid (Off.Short (newOff M S) 1048576) := newOff_short (by omega) (short_up HT.out.short hM)
  go_wp2_with fail
  generalize w2.alloc (.cells #[.slice a1 M c1, .slice a2 M c2, .slice a3 0 c3] 66) = u0 at HF ⊢
  have HFX : Hid (∃ (x : Off) (a1 a2 a3 : Option Addr) (c1 c2 c3 : Nat) (L C A B D E : Nat → Value), x.san ≤ 7 ∧ x.bkn ≤ 30 ∧ Off.Short x 1048576 ∧ Hid (FSit w u0 cb ao n c (90000000000000) w2.heap.size x a1 a2 a3 c1 c2 c3 L C A B D E)) := ⟨newOff M S, a1, a2, a3, c1, c2, c3, L, C, A, B, D, E, by show M ≤ 7; omega, Nat.zero_le _, HSH.out, HF⟩
  clear HF HSH hO hb0 hb2 bR bR1 hk1 HT hs0 hs1 bN hp3
  generalize w2.heap.size = ob at HFX ⊢
  obtain ⟨x, a1, a2, a3, c1, c2, c3, L, C, A, B, D, E, hx1, hx2, hx3, HP⟩ := HFX.out
  clear HFX
  refine (pick_any cb ao n c (90000000000000) 8 _ (by omega) (by omega) (by omega) HP.out.cur).mono ?_
  rintro e u1 ⟨⟨r8, rfl, hr8⟩, hcN, hkN⟩
  have HP1 : Hid (FSit w u1 cb ao n c (90000000000000 + 2) ob x a1 a2 a3 c1 c2 c3 L C A B D E) := HP.out.on hcb hcN hkN
  clear HP hcN hkN
  go_wp2_with fail
  refine (one_any cb ao n c (90000000000000 + 2) 16 _ (by omega) (by omega) (by omega) HP1.out.cur).mono ?_
  rintro e u2 ⟨⟨tb, rfl⟩, hcN, hkN⟩
  have HP2 : Hid (FSit w u2 cb ao n c (90000000000000 + 2 + 2) ob x a1 a2 a3 c1 c2 c3 L C A B D E) := HP1.out.on hcb hcN hkN
  clear HP1 hcN hkN
  go_upto_if 19 with fail
  go_cut [5] (fun n5 wx => ∃ m : Nat, n5 = .int .i64 (m : Int) ∧ m ≤ 40 ∧ Hid (FSit w wx cb ao n c (90000000000000 + 4) ob x a1 a2 a3 c1 c2 c3 L C A B D E))
  case first =>
    cases tb with
    | false =>
      go_wp2
      go_meet
      exact ⟨r8, rfl, by omega, HP2.out.more (by omega)⟩
    | true =>
      go_wp2
      go_meet
      exact ⟨40, rfl, by omega, HP2.out.more (by omega)⟩
  case rest =>
    obtain ⟨m, rfl, hm40, HP3⟩ := hcut
    clear HP2
    go_wp2
    go_loopw [6, 7, 8, 9] (fun kk _ _ _ wr => ∃ i : Nat, kk = .int .i64 (i : Int) ∧ 1 ≤ i ∧ i ≤ m + 1 ∧ ∃ (x : Off) (a1 a2 a3 : Option Addr) (c1 c2 c3 : Nat) (L C A B D E : Nat → Value), x.san ≤ 7 ∧ x.bkn ≤ 30 ∧ Off.Short x 1048576 ∧ Hid (FSit w wr cb ao n c (90000000000000 + 4 + 302 * i) ob x a1 a2 a3 c1 c2 c3 L C A B D E)) (fun kk _ _ _ _ => 41 - (intOf kk).toNat)
    case atStart => exact ⟨1, rfl, by omega, by omega, x, a1, a2, a3, c1, c2, c3, L, C, A, B, D, E, hx1, hx2, hx3, HP3.out.more (by omega)⟩
    case round =>
      clear HP3 hx1 hx2 hx3 a1 a2 a3 c1 c2 c3 L C A B D E x
      obtain ⟨i, rfl, hi1, him, x, a1, a2, a3, c1, c2, c3, L, C, A, B, D, E, hx1, hx2, hx3, HP⟩ := hrel
      by_cases hi : i ≤ m
      · have d1 : decide ((i : Int) ≤ (m : Int)) = true := decide_eq_true (by omega)
        have i0 : (i : Int) ≤ (m : Int) := by omega
        go_upto_region 8 with fail
        go_cut [7, 9] (fun s7 s9 wx => ∃ b7 tb b1 b2 b3 m1 m2 m3 d1 d2 d3, s7 = .pointer (some ⟨b7, 0, none⟩) ∧ s9 = .bool tb ∧ ob < b7 ∧ Hid (wx.heap[b7]? = some (.cells #[.slice b1 m1 d1, .slice b2 m2 d2, .slice b3 m3 d3] 66 (0, 0))) ∧ Hid (NextOff w.heap.size x.san b1 b2 b3 m1 m2 m3 d1 d2 d3 tb wx) ∧ Hid (FSit w wx cb ao n c (90000000000000 + 4 + 302 * i + 300) ob x a1 a2 a3 c1 c2 c3 L C A B D E))
        case first =>
          have HF0 : Hid (FSit w wr.drew cb ao n c (90000000000000 + 4 + 302 * i) ob x a1 a2 a3 c1 c2 c3 L C A B D E) := HP.out.below (Below.refl _ _).drew
          refine wp_region_z 15 15 (fun w' => w'.cell? ⟨ob, 0, none⟩ = some (.slice a1 x.san c1) ∧ w'.cell? ⟨ob, 1, none⟩ = some (.slice a2 x.ldn c2) ∧ w'.cell? ⟨ob, 2, none⟩ = some (.slice a3 x.bkn c3)) rfl (by kernel_rfl) HF0.out.s (fun hS => ?_)
          clear HP
          simp only [List.replicate_succ, List.replicate_zero]
          generalize wr.drew = u0 at HF0 hS ⊢
          (refine wpAnyZ_takeN (i := 0) (v := ?_) rfl (by kernel_rfl) (fun _ _ _ h => h) (Or.inl ⟨by rfl, ?_⟩) (by assumption) ?_; rotate_left; (focus (intro w' hSw; (try dsimp only at hSw); go_simp; try with_reducible rfl)); simp only [Act.put, List.setIfInBounds_toArray, List.set_cons_zero, List.set_cons_succ])
          (refine wpAnyZ_takeN (i := 1) (v := ?_) rfl (by kernel_rfl) (fun _ _ _ h => h) (Or.inl ⟨by rfl, ?_⟩) (by assumption) ?_; rotate_left; (focus (intro w' hSw; (try dsimp only at hSw); go_simp; try with_reducible rfl)); simp only [Act.put, List.setIfInBounds_toArray, List.set_cons_zero, List.set_cons_succ])
          (refine wpAnyZ_takeN (i := 2) (v := ?_) rfl (by kernel_rfl) (fun _ _ _ h => h) (Or.inl ⟨by rfl, ?_⟩) (by assumption) ?_; rotate_left; (focus (intro w' hSw; (try dsimp only at hSw); go_simp; try with_reducible rfl)); simp only [Act.put, List.setIfInBounds_toArray, List.set_cons_zero, List.set_cons_succ])
          (refine wpAnyZ_takeN (i := 3) (v := ?_) rfl (by kernel_rfl) (fun _ _ _ h => h) (Or.inl ⟨by rfl, ?_⟩) (by assumption) ?_; rotate_left; (focus (intro w' hSw; (try dsimp only at hSw); go_simp; try with_reducible rfl)); simp only [Act.put, List.setIfInBounds_toArray, List.set_cons_zero, List.set_cons_succ])
          refine wpAnyZ_ready (rs := [4, 10, 11]) (by kernel_rfl) (by simp) ?_
          refine AllReadyZ.consL rfl (fun K hK => ?_) ?_
          · go_simp
            go_at_call 29
            refine Calls.mono (op_any cb ao n c (90000000000000 + 4 + 302 * i) a1 a2 a3 x.san c1 x.ldn c2 x.bkn c3 x.sa u0 (by omega) (by omega) (by omega) HF0.out.cur HF0.out.sails) ?_
            rintro e u1 ⟨⟨y, ag, cg, rfl, hy1, hy2, hlg⟩, hcN, hkN⟩
            dsimp only
            have HF1 : Hid (FSit w u1 cb ao n c (90000000000000 + 4 + 302 * i + 300) ob x a1 a2 a3 c1 c2 c3 L C A B D E) := HF0.out.on hcb hcN hkN
            have HLG : Hid (u1.ownsRow w.heap.size 3 1 (.slice ag y.lgn cg) y.lgn (intList y.lg y.lgn)) := own_base hlg HF0.out.kept.size
            have hwo := HF0.out.lt
            refine hK.out _ _ HF1.out.s (fun hS => ?_)
            clear hK K HF0 hcN hkN hlg hwo
            simp only [List.set_cons_zero, List.set_cons_succ]
            refine wpAnyZ_ready (rs := [5, 10, 11]) (by kernel_rfl) (by simp) ?_
            refine AllReadyZ.consL rfl (fun K hK => ?_) ?_
            · go_simp
              go_at_call 80
              refine Calls.mono (dop_next x a1 a2 a3 ag c1 c2 c3 cg (i : Int) y u1 hx3 HF1.out.own.sa.at HF1.out.own.ld.at HF1.out.own.bk.at HF1.out.cap (own_ints HLG.out) (own_ok HLG.out) (by omega) (by omega)) ?_
              rintro e u2 ⟨⟨b1, b2, b3, b4, m1, m2, m3, m4, d1, d2, d3, d4, k1, k2, k3, tb, rfl, hnx⟩, hbN⟩
              dsimp only
              have HF2 : Hid (FSit w u2 cb ao n c (90000000000000 + 4 + 302 * i + 300) ob x a1 a2 a3 c1 c2 c3 L C A B D E) := HF1.out.below hbN
              have HNX : Hid (NextOff w.heap.size x.san b1 b2 b3 m1 m2 m3 d1 d2 d3 tb u2) := hnx.out.lower HF1.out.kept.size
              refine hK.out _ _ HF2.out.s (fun hS => ?_)
              clear hK K HF1 hbN hnx HLG
              simp only [List.set_cons_zero, List.set_cons_succ]
              (refine wpAnyZ_takeN (i := 6) (v := ?_) rfl (by kernel_rfl) (fun _ _ _ h => h) (Or.inl ⟨by rfl, ?_⟩) (by assumption) ?_; rotate_left; (focus (intro w' hSw; (try dsimp only at hSw); go_simp; try with_reducible rfl)); simp only [Act.put, List.setIfInBounds_toArray, List.set_cons_zero, List.set_cons_succ])
              (refine wpAnyZ_takeN (i := 7) (v := ?_) rfl (by kernel_rfl) (fun _ _ _ h => h) (Or.inl ⟨by rfl, ?_⟩) (by assumption) ?_; rotate_left; (focus (intro w' hSw; (try dsimp only at hSw); go_simp; try with_reducible rfl)); simp only [Act.put, List.setIfInBounds_toArray, List.set_cons_zero, List.set_cons_succ])
              (refine wpAnyZ_takeN (i := 8) (v := ?_) rfl (by kernel_rfl) (fun _ _ _ h => h) (Or.inl ⟨by rfl, ?_⟩) (by assumption) ?_; rotate_left; (focus (intro w' hSw; (try dsimp only at hSw); go_simp; try with_reducible rfl)); simp only [Act.put, List.setIfInBounds_toArray, List.set_cons_zero, List.set_cons_succ])
              (refine wpAnyZ_takeN (i := 9) (v := ?_) rfl (by kernel_rfl) (fun _ _ _ h => h) (Or.inl ⟨by rfl, ?_⟩) (by assumption) ?_; rotate_left; (focus (intro w' hSw; (try dsimp only at hSw); go_simp; try with_reducible rfl)); simp only [Act.put, List.setIfInBounds_toArray, List.set_cons_zero, List.set_cons_succ])
              refine wpAnyZ_ready (rs := [10, 11]) (by kernel_rfl) (by simp) ?_
              refine AllReadyZ.consL rfl (fun K hK => ?_) ?_
              · go_simp
                have HF3 : Hid (FSit w (u2.alloc (.cells #[.slice none 0 0, .slice none 0 0, .slice none 0 0] 66)) cb ao n c (90000000000000 + 4 + 302 * i + 300) ob x a1 a2 a3 c1 c2 c3 L C A B D E) := HF2.out.below (push (Below.refl _ _) _)
                have HB7 : Hid ((u2.alloc (.cells #[.slice none 0 0, .slice none 0 0, .slice none 0 0] 66)).heap[u2.heap.size]? = some (.cells #[.slice none 0 0, .slice none 0 0, .slice none 0 0] 66 (0, 0))) := heap_alloc_new u2 _
                have lb7 : ob < u2.heap.size := HF2.out.ob_lt
                replace HNX : Hid (NextOff w.heap.size x.san b1 b2 b3 m1 m2 m3 d1 d2 d3 tb (u2.alloc (.cells #[.slice none 0 0, .slice none 0 0, .slice none 0 0] 66))) := HNX.out.below (push (Below.refl _ _) _)
                refine hK.out _ _ HF3.out.s (fun hS => ?_)
                clear hK K HF2
                simp only [List.set_cons_zero, List.set_cons_succ]
                generalize (u2.alloc (.cells #[.slice none 0 0, .slice none 0 0, .slice none 0 0] 66)) = u3 at HF3 HB7 HNX hS ⊢
                generalize u2.heap.size = b7 at HB7 lb7 ⊢
                refine wpAnyZ_ready (rs := [11]) (by kernel_rfl) (by simp) ?_
                refine AllReadyZ.consL rfl (fun K hK => ?_) ?_
                · go_simp
                  have HF4 : Hid (FSit w (u3.alloc (.cells #[.int .i64 0, .int .i64 0, .int .i64 0, .slice none 0 0] 127)) cb ao n c (90000000000000 + 4 + 302 * i + 300) ob x a1 a2 a3 c1 c2 c3 L C A B D E) := HF3.out.below (push (Below.refl _ _) _)
                  have HB8 : Hid ((u3.alloc (.cells #[.int .i64 0, .int .i64 0, .int .i64 0, .slice none 0 0] 127)).heap[u3.heap.size]? = some (.cells #[.int .i64 0, .int .i64 0, .int .i64 0, .slice none 0 0] 127 (0, 0))) := heap_alloc_new u3 _
                  have lb8 : ob < u3.heap.size := HF3.out.ob_lt
                  replace HB7 : Hid ((u3.alloc (.cells #[.int .i64 0, .int .i64 0, .int .i64 0, .slice none 0 0] 127)).heap[b7]? = some (.cells #[.slice none 0 0, .slice none 0 0, .slice none 0 0] 66 (0, 0))) := blk_alloc HB7.out _
                  replace HNX : Hid (NextOff w.heap.size x.san b1 b2 b3 m1 m2 m3 d1 d2 d3 tb (u3.alloc (.cells #[.int .i64 0, .int .i64 0, .int .i64 0, .slice none 0 0] 127))) := HNX.out.below (push (Below.refl _ _) _)
                  refine hK.out _ _ HF4.out.s (fun hS => ?_)
                  clear hK K HF3
                  simp only [List.set_cons_zero, List.set_cons_succ]
                  generalize (u3.alloc (.cells #[.int .i64 0, .int .i64 0, .int .i64 0, .slice none 0 0] 127)) = u4 at HF4 HB8 HB7 HNX hS ⊢
                  generalize u3.heap.size = b8 at HB8 lb8 ⊢
                  have hne : b7 ≠ b8 := fun e => by have h7 := HB7.out; rw [e, HB8.out] at h7; simp at h7
                  have q0 := blk_cell HB7.out 0 _ rfl
                  have qf0 := blk_free HB7.out 0
                  have q1 := blk_cell HB7.out 1 _ rfl
                  have qf1 := blk_free HB7.out 1
                  have q2 := blk_cell HB7.out 2 _ rfl
                  have qf2 := blk_free HB7.out 2
                  have hk7 : Kept u4 (((u4.setCell ⟨b7, 0, none⟩ (.slice b1 m1 d1)).setCell ⟨b7, 1, none⟩ (.slice b2 m2 d2)).setCell ⟨b7, 2, none⟩ (.slice b3 m3 d3)) (fun b => b = b7) := ((((Kept.refl u4 (fun b => b = b7)).set (a := ⟨b7, 0, none⟩) rfl (.slice b1 m1 d1)).set (a := ⟨b7, 1, none⟩) rfl (.slice b2 m2 d2)).set (a := ⟨b7, 2, none⟩) rfl (.slice b3 m3 d3))
                  have HG : Hid (FSit w (((u4.setCell ⟨b7, 0, none⟩ (.slice b1 m1 d1)).setCell ⟨b7, 1, none⟩ (.slice b2 m2 d2)).setCell ⟨b7, 2, none⟩ (.slice b3 m3 d3)) cb ao n c (90000000000000 + 4 + 302 * i + 300) ob x a1 a2 a3 c1 c2 c3 L C A B D E) := HF4.out.other hcb HL.out hk7 HB7.out (by decide) lb7
                  have HNX7 : Hid (NextOff w.heap.size x.san b1 b2 b3 m1 m2 m3 d1 d2 d3 tb (((u4.setCell ⟨b7, 0, none⟩ (.slice b1 m1 d1)).setCell ⟨b7, 1, none⟩ (.slice b2 m2 d2)).setCell ⟨b7, 2, none⟩ (.slice b3 m3 d3))) := HNX.out.box hk7 HB7.out (by decide)
                  have HC7 : Hid ((((u4.setCell ⟨b7, 0, none⟩ (.slice b1 m1 d1)).setCell ⟨b7, 1, none⟩ (.slice b2 m2 d2)).setCell ⟨b7, 2, none⟩ (.slice b3 m3 d3)).heap[b7]? = some (.cells #[.slice b1 m1 d1, .slice b2 m2 d2, .slice b3 m3 d3] 66 (0, 0))) := off3_n HB7.out _ _ _
                  have HD8 : Hid ((((u4.setCell ⟨b7, 0, none⟩ (.slice b1 m1 d1)).setCell ⟨b7, 1, none⟩ (.slice b2 m2 d2)).setCell ⟨b7, 2, none⟩ (.slice b3 m3 d3)).heap[b8]? = some (.cells #[.int .i64 0, .int .i64 0, .int .i64 0, .slice none 0 0] 127 (0, 0))) := hk7.blk HB8.out (show ¬ b8 = b7 from fun e => hne e.symm)
                  refine wpAnyZ_ready (rs := [12]) (by kernel_rfl) (by simp) ?_
                  refine AllReadyZ.consL rfl (fun K hK => ?_) AllReadyZ.nil
                  go_simp
                  refine hK.out _ _ HG.out.s (fun hS => ?_)
                  clear hK K HF4 hk7 HNX HB7 HB8 q0 q1 q2 qf0 qf1 qf2
                  simp only [List.set_cons_zero, List.set_cons_succ]
                  generalize (((u4.setCell ⟨b7, 0, none⟩ (.slice b1 m1 d1)).setCell ⟨b7, 1, none⟩ (.slice b2 m2 d2)).setCell ⟨b7, 2, none⟩ (.slice b3 m3 d3)) = v7 at HG HNX7 HC7 HD8 hS ⊢
                  have q0 := blk_cell HD8.out 0 _ rfl
                  have qf0 := blk_free HD8.out 0
                  have q1 := blk_cell HD8.out 1 _ rfl
                  have qf1 := blk_free HD8.out 1
                  have q2 := blk_cell HD8.out 2 _ rfl
                  have qf2 := blk_free HD8.out 2
                  have q3 := blk_cell HD8.out 3 _ rfl
                  have qf3 := blk_free HD8.out 3
                  have hk8 : Kept v7 ((((v7.setCell ⟨b8, 0, none⟩ (.int .i64 k1)).setCell ⟨b8, 1, none⟩ (.int .i64 k2)).setCell ⟨b8, 2, none⟩ (.int .i64 k3)).setCell ⟨b8, 3, none⟩ (.slice b4 m4 d4)) (fun b => b = b8) := (((((Kept.refl v7 (fun b => b = b8)).set (a := ⟨b8, 0, none⟩) rfl (.int .i64 k1)).set (a := ⟨b8, 1, none⟩) rfl (.int .i64 k2)).set (a := ⟨b8, 2, none⟩) rfl (.int .i64 k3)).set (a := ⟨b8, 3, none⟩) rfl (.slice b4 m4 d4))
                  have HH : Hid (FSit w ((((v7.setCell ⟨b8, 0, none⟩ (.int .i64 k1)).setCell ⟨b8, 1, none⟩ (.int .i64 k2)).setCell ⟨b8, 2, none⟩ (.int .i64 k3)).setCell ⟨b8, 3, none⟩ (.slice b4 m4 d4)) cb ao n c (90000000000000 + 4 + 302 * i + 300) ob x a1 a2 a3 c1 c2 c3 L C A B D E) := HG.out.other hcb HL.out hk8 HD8.out (by decide) lb8
                  have HNX8 : Hid (NextOff w.heap.size x.san b1 b2 b3 m1 m2 m3 d1 d2 d3 tb ((((v7.setCell ⟨b8, 0, none⟩ (.int .i64 k1)).setCell ⟨b8, 1, none⟩ (.int .i64 k2)).setCell ⟨b8, 2, none⟩ (.int .i64 k3)).setCell ⟨b8, 3, none⟩ (.slice b4 m4 d4))) := HNX7.out.box hk8 HD8.out (by decide)
                  have HC8 : Hid (((((v7.setCell ⟨b8, 0, none⟩ (.int .i64 k1)).setCell ⟨b8, 1, none⟩ (.int .i64 k2)).setCell ⟨b8, 2, none⟩ (.int .i64 k3)).setCell ⟨b8, 3, none⟩ (.slice b4 m4 d4)).heap[b7]? = some (.cells #[.slice b1 m1 d1, .slice b2 m2 d2, .slice b3 m3 d3] 66 (0, 0))) := hk8.blk HC7.out hne
                  refine wpAnyZ_ready (rs := [13]) (by kernel_rfl) (by simp) ?_
                  refine AllReadyZ.consL rfl (fun K hK => ?_) AllReadyZ.nil
                  go_simp
                  refine hK.out _ _ HH.out.s (fun hS => ?_)
                  clear hK K HG hk8 HNX7 HC7 HD8 q0 q1 q2 q3 qf0 qf1 qf2 qf3
                  simp only [List.set_cons_zero, List.set_cons_succ]
                  generalize ((((v7.setCell ⟨b8, 0, none⟩ (.int .i64 k1)).setCell ⟨b8, 1, none⟩ (.int .i64 k2)).setCell ⟨b8, 2, none⟩ (.int .i64 k3)).setCell ⟨b8, 3, none⟩ (.slice b4 m4 d4)) = v8 at HH HNX8 HC8 hS ⊢
                  refine wpAnyZ_ready (rs := [14]) (by kernel_rfl) (by simp) ?_
                  refine AllReadyZ.consL rfl (fun K hK => ?_) AllReadyZ.nil
                  go_simp
                  refine hK.out _ _ HH.out.s (fun hS => ?_)
                  clear hK K
                  simp only [List.set_cons_zero, List.set_cons_succ]
                  refine wpAnyZ_done (by kernel_rfl) ?_ _
                  go_wp2
                  go_meet
                  exact ⟨b7, tb, b1, b2, b3, m1, m2, m3, d1, d2, d3, rfl, rfl, lb7, HC8, HNX8, HH⟩
                exact AllReadyZ.nil
              refine AllReadyZ.consL rfl (fun K hK => ?_) ?_
              · go_simp
                have HF3 : Hid (FSit w (u2.alloc (.cells #[.int .i64 0, .int .i64 0, .int .i64 0, .slice none 0 0] 127)) cb ao n c (90000000000000 + 4 + 302 * i + 300) ob x a1 a2 a3 c1 c2 c3 L C A B D E) := HF2.out.below (push (Below.refl _ _) _)
                have HB8 : Hid ((u2.alloc (.cells #[.int .i64 0, .int .i64 0, .int .i64 0, .slice none 0 0] 127)).heap[u2.heap.size]? = some (.cells #[.int .i64 0, .int .i64 0, .int .i64 0, .slice none 0 0] 127 (0, 0))) := heap_alloc_new u2 _
                have lb8 : ob < u2.heap.size := HF2.out.ob_lt
                replace HNX : Hid (NextOff w.heap.size x.san b1 b2 b3 m1 m2 m3 d1 d2 d3 tb (u2.alloc (.cells #[.int .i64 0, .int .i64 0, .int .i64 0, .slice none 0 0] 127))) := HNX.out.below (push (Below.refl _ _) _)
                refine hK.out _ _ HF3.out.s (fun hS => ?_)
                clear hK K HF2
                simp only [List.set_cons_zero, List.set_cons_succ]
                generalize (u2.alloc (.cells #[.int .i64 0, .int .i64 0, .int .i64 0, .slice none 0 0] 127)) = u3 at HF3 HB8 HNX hS ⊢
                generalize u2.heap.size = b8 at HB8 lb8 ⊢
                refine wpAnyZ_ready (rs := [10]) (by kernel_rfl) (by simp) ?_
                refine AllReadyZ.consL rfl (fun K hK => ?_) ?_
                · go_simp
                  have HF4 : Hid (FSit w (u3.alloc (.cells #[.slice none 0 0, .slice none 0 0, .slice none 0 0] 66)) cb ao n c (90000000000000 + 4 + 302 * i + 300) ob x a1 a2 a3 c1 c2 c3 L C A B D E) := HF3.out.below (push (Below.refl _ _) _)
                  have HB7 : Hid ((u3.alloc (.cells #[.slice none 0 0, .slice none 0 0, .slice none 0 0] 66)).heap[u3.heap.size]? = some (.cells #[.slice none 0 0, .slice none 0 0, .slice none 0 0] 66 (0, 0))) := heap_alloc_new u3 _
                  have lb7 : ob < u3.heap.size := HF3.out.ob_lt
                  replace HB8 : Hid ((u3.alloc (.cells #[.slice none 0 0, .slice none 0 0, .slice none 0 0] 66)).heap[b8]? = some (.cells #[.int .i64 0, .int .i64 0, .int .i64 0, .slice none 0 0] 127 (0, 0))) := blk_alloc HB8.out _
                  replace HNX : Hid (NextOff w.heap.size x.san b1 b2 b3 m1 m2 m3 d1 d2 d3 tb (u3.alloc (.cells #[.slice none 0 0, .slice none 0 0, .slice none 0 0] 66))) := HNX.out.below (push (Below.refl _ _) _)
                  refine hK.out _ _ HF4.out.s (fun hS => ?_)
                  clear hK K HF3
                  simp only [List.set_cons_zero, List.set_cons_succ]
                  generalize (u3.alloc (.cells #[.slice none 0 0, .slice none 0 0, .slice none 0 0] 66)) = u4 at HF4 HB7 HB8 HNX hS ⊢
                  generalize u3.heap.size = b7 at HB7 lb7 ⊢
                  have hne : b7 ≠ b8 := fun e => by have h7 := HB7.out; rw [e, HB8.out] at h7; simp at h7
                  have q0 := blk_cell HB7.out 0 _ rfl
                  have qf0 := blk_free HB7.out 0
                  have q1 := blk_cell HB7.out 1 _ rfl
                  have qf1 := blk_free HB7.out 1
                  have q2 := blk_cell HB7.out 2 _ rfl
                  have qf2 := blk_free HB7.out 2
                  have hk7 : Kept u4 (((u4.setCell ⟨b7, 0, none⟩ (.slice b1 m1 d1)).setCell ⟨b7, 1, none⟩ (.slice b2 m2 d2)).setCell ⟨b7, 2, none⟩ (.slice b3 m3 d3)) (fun b => b = b7) := ((((Kept.refl u4 (fun b => b = b7)).set (a := ⟨b7, 0, none⟩) rfl (.slice b1 m1 d1)).set (a := ⟨b7, 1, none⟩) rfl (.slice b2 m2 d2)).set (a := ⟨b7, 2, none⟩) rfl (.slice b3 m3 d3))
                  have HG : Hid (FSit w (((u4.setCell ⟨b7, 0, none⟩ (.slice b1 m1 d1)).setCell ⟨b7, 1, none⟩ (.slice b2 m2 d2)).setCell ⟨b7, 2, none⟩ (.slice b3 m3 d3)) cb ao n c (90000000000000 + 4 + 302 * i + 300) ob x a1 a2 a3 c1 c2 c3 L C A B D E) := HF4.out.other hcb HL.out hk7 HB7.out (by decide) lb7
                  have HNX7 : Hid (NextOff w.heap.size x.san b1 b2 b3 m1 m2 m3 d1 d2 d3 tb (((u4.setCell ⟨b7, 0, none⟩ (.slice b1 m1 d1)).setCell ⟨b7, 1, none⟩ (.slice b2 m2 d2)).setCell ⟨b7, 2, none⟩ (.slice b3 m3 d3))) := HNX.out.box hk7 HB7.out (by decide)
                  have HC7 : Hid ((((u4.setCell ⟨b7, 0, none⟩ (.slice b1 m1 d1)).setCell ⟨b7, 1, none⟩ (.slice b2 m2 d2)).setCell ⟨b7, 2, none⟩ (.slice b3 m3 d3)).heap[b7]? = some (.cells #[.slice b1 m1 d1, .slice b2 m2 d2, .slice b3 m3 d3] 66 (0, 0))) := off3_n HB7.out _ _ _
                  have HD8 : Hid ((((u4.setCell ⟨b7, 0, none⟩ (.slice b1 m1 d1)).setCell ⟨b7, 1, none⟩ (.slice b2 m2 d2)).setCell ⟨b7, 2, none⟩ (.slice b3 m3 d3)).heap[b8]? = some (.cells #[.int .i64 0, .int .i64 0, .int .i64 0, .slice none 0 0] 127 (0, 0))) := hk7.blk HB8.out (show ¬ b8 = b7 from fun e => hne e.symm)
                  refine wpAnyZ_ready (rs := [12]) (by kernel_rfl) (by simp) ?_
                  refine AllReadyZ.consL rfl (fun K hK => ?_) AllReadyZ.nil
                  go_simp
                  refine hK.out _ _ HG.out.s (fun hS => ?_)
                  clear hK K HF4 hk7 HNX HB7 HB8 q0 q1 q2 qf0 qf1 qf2
                  simp only [List.set_cons_zero, List.set_cons_succ]
                  generalize (((u4.setCell ⟨b7, 0, none⟩ (.slice b1 m1 d1)).setCell ⟨b7, 1, none⟩ (.slice b2 m2 d2)).setCell ⟨b7, 2, none⟩ (.slice b3 m3 d3)) = v7 at HG HNX7 HC7 HD8 hS ⊢
                  have q0 := blk_cell HD8.out 0 _ rfl
                  have qf0 := blk_free HD8.out 0
                  have q1 := blk_cell HD8.out 1 _ rfl
                  have qf1 := blk_free HD8.out 1
                  have q2 := blk_cell HD8.out 2 _ rfl
                  have qf2 := blk_free HD8.out 2
                  have q3 := blk_cell HD8.out 3 _ rfl
                  have qf3 := blk_free HD8.out 3
                  have hk8 : Kept v7 ((((v7.setCell ⟨b8, 0, none⟩ (.int .i64 k1)).setCell ⟨b8, 1, none⟩ (.int .i64 k2)).setCell ⟨b8, 2, none⟩ (.int .i64 k3)).setCell ⟨b8, 3, none⟩ (.slice b4 m4 d4)) (fun b => b = b8) := (((((Kept.refl v7 (fun b => b = b8)).set (a := ⟨b8, 0, none⟩) rfl (.int .i64 k1)).set (a := ⟨b8, 1, none⟩) rfl (.int .i64 k2)).set (a := ⟨b8, 2, none⟩) rfl (.int .i64 k3)).set (a := ⟨b8, 3, none⟩) rfl (.slice b4 m4 d4))
                  have HH : Hid (FSit w ((((v7.setCell ⟨b8, 0, none⟩ (.int .i64 k1)).setCell ⟨b8, 1, none⟩ (.int .i64 k2)).setCell ⟨b8, 2, none⟩ (.int .i64 k3)).setCell ⟨b8, 3, none⟩ (.slice b4 m4 d4)) cb ao n c (90000000000000 + 4 + 302 * i + 300) ob x a1 a2 a3 c1 c2 c3 L C A B D E) := HG.out.other hcb HL.out hk8 HD8.out (by decide) lb8
                  have HNX8 : Hid (NextOff w.heap.size x.san b1 b2 b3 m1 m2 m3 d1 d2 d3 tb ((((v7.setCell ⟨b8, 0, none⟩ (.int .i64 k1)).setCell ⟨b8, 1, none⟩ (.int .i64 k2)).setCell ⟨b8, 2, none⟩ (.int .i64 k3)).setCell ⟨b8, 3, none⟩ (.slice b4 m4 d4))) := HNX7.out.box hk8 HD8.out (by decide)
                  have HC8 : Hid (((((v7.setCell ⟨b8, 0, none⟩ (.int .i64 k1)).setCell ⟨b8, 1, none⟩ (.int .i64 k2)).setCell ⟨b8, 2, none⟩ (.int .i64 k3)).setCell ⟨b8, 3, none⟩ (.slice b4 m4 d4)).heap[b7]? = some (.cells #[.slice b1 m1 d1, .slice b2 m2 d2, .slice b3 m3 d3] 66 (0, 0))) := hk8.blk HC7.out hne
                  refine wpAnyZ_ready (rs := [13]) (by kernel_rfl) (by simp) ?_
                  refine AllReadyZ.consL rfl (fun K hK => ?_) AllReadyZ.nil
                  go_simp
                  refine hK.out _ _ HH.out.s (fun hS => ?_)
                  clear hK K HG hk8 HNX7 HC7 HD8 q0 q1 q2 q3 qf0 qf1 qf2 qf3
                  simp only [List.set_cons_zero, List.set_cons_succ]
                  generalize ((((v7.setCell ⟨b8, 0, none⟩ (.int .i64 k1)).setCell ⟨b8, 1, none⟩ (.int .i64 k2)).setCell ⟨b8, 2, none⟩ (.int .i64 k3)).setCell ⟨b8, 3, none⟩ (.slice b4 m4 d4)) = v8 at HH HNX8 HC8 hS ⊢
                  refine wpAnyZ_ready (rs := [14]) (by kernel_rfl) (by simp) ?_
                  refine AllReadyZ.consL rfl (fun K hK => ?_) AllReadyZ.nil
                  go_simp
                  refine hK.out _ _ HH.out.s (fun hS => ?_)
                  clear hK K
                  simp only [List.set_cons_zero, List.set_cons_succ]
                  refine wpAnyZ_done (by kernel_rfl) ?_ _
                  go_wp2
                  go_meet
                  exact ⟨b7, tb, b1, b2, b3, m1, m2, m3, d1, d2, d3, rfl, rfl, lb7, HC8, HNX8, HH⟩
                exact AllReadyZ.nil
              exact AllReadyZ.nil
            refine AllReadyZ.consL rfl (fun K hK => ?_) ?_
            · go_simp
              have HF2 : Hid (FSit w (u1.alloc (.cells #[.slice none 0 0, .slice none 0 0, .slice none 0 0] 66)) cb ao n c (90000000000000 + 4 + 302 * i + 300) ob x a1 a2 a3 c1 c2 c3 L C A B D E) := HF1.out.below (push (Below.refl _ _) _)
              have HB7 : Hid ((u1.alloc (.cells #[.slice none 0 0, .slice none 0 0, .slice none 0 0] 66)).heap[u1.heap.size]? = some (.cells #[.slice none 0 0, .slice none 0 0, .slice none 0 0] 66 (0, 0))) := heap_alloc_new u1 _
              have lb7 : ob < u1.heap.size := HF1.out.ob_lt
              replace HLG : Hid ((u1.alloc (.cells #[.slice none 0 0, .slice none 0 0, .slice none 0 0] 66)).ownsRow w.heap.size 3 1 (.slice ag y.lgn cg) y.lgn (intList y.lg y.lgn)) := own_below (push (Below.refl _ _) _) HLG.out
              refine hK.out _ _ HF2.out.s (fun hS => ?_)
              clear hK K HF1
              simp only [List.set_cons_zero, List.set_cons_succ]
              generalize (u1.alloc (.cells #[.slice none 0 0, .slice none 0 0, .slice none 0 0] 66)) = u2 at HF2 HB7 HLG hS ⊢
              generalize u1.heap.size = b7 at HB7 lb7 ⊢
              refine wpAnyZ_ready (rs := [5, 11]) (by kernel_rfl) (by simp) ?_
              refine AllReadyZ.consL rfl (fun K hK => ?_) ?_
              · go_simp
                go_at_call 80
                refine Calls.mono (dop_next x a1 a2 a3 ag c1 c2 c3 cg (i : Int) y u2 hx3 HF2.out.own.sa.at HF2.out.own.ld.at HF2.out.own.bk.at HF2.out.cap (own_ints HLG.out) (own_ok HLG.out) (by omega) (by omega)) ?_
                rintro e u3 ⟨⟨b1, b2, b3, b4, m1, m2, m3, m4, d1, d2, d3, d4, k1, k2, k3, tb, rfl, hnx⟩, hbN⟩
                dsimp only
                have HF3 : Hid (FSit w u3 cb ao n c (90000000000000 + 4 + 302 * i + 300) ob x a1 a2 a3 c1 c2 c3 L C A B D E) := HF2.out.below hbN
                have HNX : Hid (NextOff w.heap.size x.san b1 b2 b3 m1 m2 m3 d1 d2 d3 tb u3) := hnx.out.lower HF2.out.kept.size
                replace HB7 : Hid (u3.heap[b7]? = some (.cells #[.slice none 0 0, .slice none 0 0, .slice none 0 0] 66 (0, 0))) := blk_below HB7.out hbN
                refine hK.out _ _ HF3.out.s (fun hS => ?_)
                clear hK K HF2 hbN hnx HLG
                simp only [List.set_cons_zero, List.set_cons_succ]
                (refine wpAnyZ_takeN (i := 6) (v := ?_) rfl (by kernel_rfl) (fun _ _ _ h => h) (Or.inl ⟨by rfl, ?_⟩) (by assumption) ?_; rotate_left; (focus (intro w' hSw; (try dsimp only at hSw); go_simp; try with_reducible rfl)); simp only [Act.put, List.setIfInBounds_toArray, List.set_cons_zero, List.set_cons_succ])
                (refine wpAnyZ_takeN (i := 7) (v := ?_) rfl (by kernel_rfl) (fun _ _ _ h => h) (Or.inl ⟨by rfl, ?_⟩) (by assumption) ?_; rotate_left; (focus (intro w' hSw; (try dsimp only at hSw); go_simp; try with_reducible rfl)); simp only [Act.put, List.setIfInBounds_toArray, List.set_cons_zero, List.set_cons_succ])
                (refine wpAnyZ_takeN (i := 8) (v := ?_) rfl (by kernel_rfl) (fun _ _ _ h => h) (Or.inl ⟨by rfl, ?_⟩) (by assumption) ?_; rotate_left; (focus (intro w' hSw; (try dsimp only at hSw); go_simp; try with_reducible rfl)); simp only [Act.put, List.setIfInBounds_toArray, List.set_cons_zero, List.set_cons_succ])
                (refine wpAnyZ_takeN (i := 9) (v := ?_) rfl (by kernel_rfl) (fun _ _ _ h => h) (Or.inl ⟨by rfl, ?_⟩) (by assumption) ?_; rotate_left; (focus (intro w' hSw; (try dsimp only at hSw); go_simp; try with_reducible rfl)); simp only [Act.put, List.setIfInBounds_toArray, List.set_cons_zero, List.set_cons_succ])
                refine wpAnyZ_ready (rs := [11]) (by kernel_rfl) (by simp) ?_
                refine AllReadyZ.consL rfl (fun K hK => ?_) ?_
                · go_simp
                  have HF4 : Hid (FSit w (u3.alloc (.cells #[.int .i64 0, .int .i64 0, .int .i64 0, .slice none 0 0] 127)) cb ao n c (90000000000000 + 4 + 302 * i + 300) ob x a1 a2 a3 c1 c2 c3 L C A B D E) := HF3.out.below (push (Below.refl _ _) _)
                  have HB8 : Hid ((u3.alloc (.cells #[.int .i64 0, .int .i64 0, .int .i64 0, .slice none 0 0] 127)).heap[u3.heap.size]? = some (.cells #[.int .i64 0, .int .i64 0, .int .i64 0, .slice none 0 0] 127 (0, 0))) := heap_alloc_new u3 _
                  have lb8 : ob < u3.heap.size := HF3.out.ob_lt
                  replace HB7 : Hid ((u3.alloc (.cells #[.int .i64 0, .int .i64 0, .int .i64 0, .slice none 0 0] 127)).heap[b7]? = some (.cells #[.slice none 0 0, .slice none 0 0, .slice none 0 0] 66 (0, 0))) := blk_alloc HB7.out _
                  replace HNX : Hid (NextOff w.heap.size x.san b1 b2 b3 m1 m2 m3 d1 d2 d3 tb (u3.alloc (.cells #[.int .i64 0, .int .i64 0, .int .i64 0, .slice none 0 0] 127))) := HNX.out.below (push (Below.refl _ _) _)
                  refine hK.out _ _ HF4.out.s (fun hS => ?_)
                  clear hK K HF3
                  simp only [List.set_cons_zero, List.set_cons_succ]
                  generalize (u3.alloc (.cells #[.int .i64 0, .int .i64 0, .int .i64 0, .slice none 0 0] 127)) = u4 at HF4 HB8 HB7 HNX hS ⊢
                  generalize u3.heap.size = b8 at HB8 lb8 ⊢
                  have hne : b7 ≠ b8 := fun e => by have h7 := HB7.out; rw [e, HB8.out] at h7; simp at h7
                  have q0 := blk_cell HB7.out 0 _ rfl
                  have qf0 := blk_free HB7.out 0
                  have q1 := blk_cell HB7.out 1 _ rfl
                  have qf1 := blk_free HB7.out 1
                  have q2 := blk_cell HB7.out 2 _ rfl
                  have qf2 := blk_free HB7.out 2
                  have hk7 : Kept u4 (((u4.setCell ⟨b7, 0, none⟩ (.slice b1 m1 d1)).setCell ⟨b7, 1, none⟩ (.slice b2 m2 d2)).setCell ⟨b7, 2, none⟩ (.slice b3 m3 d3)) (fun b => b = b7) := ((((Kept.refl u4 (fun b => b = b7)).set (a := ⟨b7, 0, none⟩) rfl (.slice b1 m1 d1)).set (a := ⟨b7, 1, none⟩) rfl (.slice b2 m2 d2)).set (a := ⟨b7, 2, none⟩) rfl (.slice b3 m3 d3))
                  have HG : Hid (FSit w (((u4.setCell ⟨b7, 0, none⟩ (.slice b1 m1 d1)).setCell ⟨b7, 1, none⟩ (.slice b2 m2 d2)).setCell ⟨b7, 2, none⟩ (.slice b3 m3 d3)) cb ao n c (90000000000000 + 4 + 302 * i + 300) ob x a1 a2 a3 c1 c2 c3 L C A B D E) := HF4.out.other hcb HL.out hk7 HB7.out (by decide) lb7
                  have HNX7 : Hid (NextOff w.heap.size x.san b1 b2 b3 m1 m2 m3 d1 d2 d3 tb (((u4.setCell ⟨b7, 0, none⟩ (.slice b1 m1 d1)).setCell ⟨b7, 1, none⟩ (.slice b2 m2 d2)).setCell ⟨b7, 2, none⟩ (.slice b3 m3 d3))) := HNX.out.box hk7 HB7.out (by decide)
                  have HC7 : Hid ((((u4.setCell ⟨b7, 0, none⟩ (.slice b1 m1 d1)).setCell ⟨b7, 1, none⟩ (.slice b2 m2 d2)).setCell ⟨b7, 2, none⟩ (.slice b3 m3 d3)).heap[b7]? = some (.cells #[.slice b1 m1 d1, .slice b2 m2 d2, .slice b3 m3 d3] 66 (0, 0))) := off3_n HB7.out _ _ _
                  have HD8 : Hid ((((u4.setCell ⟨b7, 0, none⟩ (.slice b1 m1 d1)).setCell ⟨b7, 1, none⟩ (.slice b2 m2 d2)).setCell ⟨b7, 2, none⟩ (.slice b3 m3 d3)).heap[b8]? = some (.cells #[.int .i64 0, .int .i64 0, .int .i64 0, .slice none 0 0] 127 (0, 0))) := hk7.blk HB8.out (show ¬ b8 = b7 from fun e => hne e.symm)
                  refine wpAnyZ_ready (rs := [12]) (by kernel_rfl) (by simp) ?_
                  refine AllReadyZ.consL rfl (fun K hK => ?_) AllReadyZ.nil
                  go_simp
                  refine hK.out _ _ HG.out.s (fun hS => ?_)
                  clear hK K HF4 hk7 HNX HB7 HB8 q0 q1 q2 qf0 qf1 qf2
                  simp only [List.set_cons_zero, List.set_cons_succ]
                  generalize (((u4.setCell ⟨b7, 0, none⟩ (.slice b1 m1 d1)).setCell ⟨b7, 1, none⟩ (.slice b2 m2 d2)).setCell ⟨b7, 2, none⟩ (.slice b3 m3 d3)) = v7 at HG HNX7 HC7 HD8 hS ⊢
                  have q0 := blk_cell HD8.out 0 _ rfl
                  have qf0 := blk_free HD8.out 0
                  have q1 := blk_cell HD8.out 1 _ rfl
                  have qf1 := blk_free HD8.out 1
                  have q2 := blk_cell HD8.out 2 _ rfl
                  have qf2 := blk_free HD8.out 2
                  have q3 := blk_cell HD8.out 3 _ rfl
                  have qf3 := blk_free HD8.out 3
                  have hk8 : Kept v7 ((((v7.setCell ⟨b8, 0, none⟩ (.int .i64 k1)).setCell ⟨b8, 1, none⟩ (.int .i64 k2)).setCell ⟨b8, 2, none⟩ (.int .i64 k3)).setCell ⟨b8, 3, none⟩ (.slice b4 m4 d4)) (fun b => b = b8) := (((((Kept.refl v7 (fun b => b = b8)).set (a := ⟨b8, 0, none⟩) rfl (.int .i64 k1)).set (a := ⟨b8, 1, none⟩) rfl (.int .i64 k2)).set (a := ⟨b8, 2, none⟩) rfl (.int .i64 k3)).set (a := ⟨b8, 3, none⟩) rfl (.slice b4 m4 d4))
                  have HH : Hid (FSit w ((((v7.setCell ⟨b8, 0, none⟩ (.int .i64 k1)).setCell ⟨b8, 1, none⟩ (.int .i64 k2)).setCell ⟨b8, 2, none⟩ (.int .i64 k3)).setCell ⟨b8, 3, none⟩ (.slice b4 m4 d4)) cb ao n c (90000000000000 + 4 + 302 * i + 300) ob x a1 a2 a3 c1 c2 c3 L C A B D E) := HG.out.other hcb HL.out hk8 HD8.out (by decide) lb8
                  have HNX8 : Hid (NextOff w.heap.size x.san b1 b2 b3 m1 m2 m3 d1 d2 d3 tb ((((v7.setCell ⟨b8, 0, none⟩ (.int .i64 k1)).setCell ⟨b8, 1, none⟩ (.int .i64 k2)).setCell ⟨b8, 2, none⟩ (.int .i64 k3)).setCell ⟨b8, 3, none⟩ (.slice b4 m4 d4))) := HNX7.out.box hk8 HD8.out (by decide)
                  have HC8 : Hid (((((v7.setCell ⟨b8, 0, none⟩ (.int .i64 k1)).setCell ⟨b8, 1, none⟩ (.int .i64 k2)).setCell ⟨b8, 2, none⟩ (.int .i64 k3)).setCell ⟨b8, 3, none⟩ (.slice b4 m4 d4)).heap[b7]? = some (.cells #[.slice b1 m1 d1, .slice b2 m2 d2, .slice b3 m3 d3] 66 (0, 0))) := hk8.blk HC7.out hne
                  refine wpAnyZ_ready (rs := [13]) (by kernel_rfl) (by simp) ?_
                  refine AllReadyZ.consL rfl (fun K hK => ?_) AllReadyZ.nil
                  go_simp
                  refine hK.out _ _ HH.out.s (fun hS => ?_)
                  clear hK K HG hk8 HNX7 HC7 HD8 q0 q1 q2 q3 qf0 qf1 qf2 qf3
                  simp only [List.set_cons_zero, List.set_cons_succ]
                  generalize ((((v7.setCell ⟨b8, 0, none⟩ (.int .i64 k1)).setCell ⟨b8, 1, none⟩ (.int .i64 k2)).setCell ⟨b8, 2, none⟩ (.int .i64 k3)).setCell ⟨b8, 3, none⟩ (.slice b4 m4 d4)) = v8 at HH HNX8 HC8 hS ⊢
                  refine wpAnyZ_ready (rs := [14]) (by kernel_rfl) (by simp) ?_
                  refine AllReadyZ.consL rfl (fun K hK => ?_) AllReadyZ.nil
                  go_simp
                  refine hK.out _ _ HH.out.s (fun hS => ?_)
                  clear hK K
                  simp only [List.set_cons_zero, List.set_cons_succ]
                  refine wpAnyZ_done (by kernel_rfl) ?_ _
                  go_wp2
                  go_meet
                  exact ⟨b7, tb, b1, b2, b3, m1, m2, m3, d1, d2, d3, rfl, rfl, lb7, HC8, HNX8, HH⟩
                exact AllReadyZ.nil
              refine AllReadyZ.consL rfl (fun K hK => ?_) ?_
              · go_simp
                have HF3 : Hid (FSit w (u2.alloc (.cells #[.int .i64 0, .int .i64 0, .int .i64 0, .slice none 0 0] 127)) cb ao n c (90000000000000 + 4 + 302 * i + 300) ob x a1 a2 a3 c1 c2 c3 L C A B D E) := HF2.out.below (push (Below.refl _ _) _)
                have HB8 : Hid ((u2.alloc (.cells #[.int .i64 0, .int .i64 0, .int .i64 0, .slice none 0 0] 127)).heap[u2.heap.size]? = some (.cells #[.int .i64 0, .int .i64 0, .int .i64 0, .slice none 0 0] 127 (0, 0))) := heap_alloc_new u2 _
                have lb8 : ob < u2.heap.size := HF2.out.ob_lt
                replace HB7 : Hid ((u2.alloc (.cells #[.int .i64 0, .int .i64 0, .int .i64 0, .slice none 0 0] 127)).heap[b7]? = some (.cells #[.slice none 0 0, .slice none 0 0, .slice none 0 0] 66 (0, 0))) := blk_alloc HB7.out _
                replace HLG : Hid ((u2.alloc (.cells #[.int .i64 0, .int .i64 0, .int .i64 0, .slice none 0 0] 127)).ownsRow w.heap.size 3 1 (.slice ag y.lgn cg) y.lgn (intList y.lg y.lgn)) := own_below (push (Below.refl _ _) _) HLG.out
                refine hK.out _ _ HF3.out.s (fun hS => ?_)
                clear hK K HF2
                simp only [List.set_cons_zero, List.set_cons_succ]
                generalize (u2.alloc (.cells #[.int .i64 0, .int .i64 0, .int .i64 0, .slice none 0 0] 127)) = u3 at HF3 HB8 HB7 HLG hS ⊢
                generalize u2.heap.size = b8 at HB8 lb8 ⊢
                refine wpAnyZ_ready (rs := [5]) (by kernel_rfl) (by simp) ?_
                refine AllReadyZ.consL rfl (fun K hK => ?_) ?_
                · go_simp
                  go_at_call 80
                  refine Calls.mono (dop_next x a1 a2 a3 ag c1 c2 c3 cg (i : Int) y u3 hx3 HF3.out.own.sa.at HF3.out.own.ld.at HF3.out.own.bk.at HF3.out.cap (own_ints HLG.out) (own_ok HLG.out) (by omega) (by omega)) ?_
                  rintro e u4 ⟨⟨b1, b2, b3, b4, m1, m2, m3, m4, d1, d2, d3, d4, k1, k2, k3, tb, rfl, hnx⟩, hbN⟩
                  dsimp only
                  have HF4 : Hid (FSit w u4 cb ao n c (90000000000000 + 4 + 302 * i + 300) ob x a1 a2 a3 c1 c2 c3 L C A B D E) := HF3.out.below hbN
                  have HNX : Hid (NextOff w.heap.size x.san b1 b2 b3 m1 m2 m3 d1 d2 d3 tb u4) := hnx.out.lower HF3.out.kept.size
                  replace HB7 : Hid (u4.heap[b7]? = some (.cells #[.slice none 0 0, .slice none 0 0, .slice none 0 0] 66 (0, 0))) := blk_below HB7.out hbN
                  replace HB8 : Hid (u4.heap[b8]? = some (.cells #[.int .i64 0, .int .i64 0, .int .i64 0, .slice none 0 0] 127 (0, 0))) := blk_below HB8.out hbN
                  refine hK.out _ _ HF4.out.s (fun hS => ?_)
                  clear hK K HF3 hbN hnx HLG
                  simp only [List.set_cons_zero, List.set_cons_succ]
                  (refine wpAnyZ_takeN (i := 6) (v := ?_) rfl (by kernel_rfl) (fun _ _ _ h => h) (Or.inl ⟨by rfl, ?_⟩) (by assumption) ?_; rotate_left; (focus (intro w' hSw; (try dsimp only at hSw); go_simp; try with_reducible rfl)); simp only [Act.put, List.setIfInBounds_toArray, List.set_cons_zero, List.set_cons_succ])
                  (refine wpAnyZ_takeN (i := 7) (v := ?_) rfl (by kernel_rfl) (fun _ _ _ h => h) (Or.inl ⟨by rfl, ?_⟩) (by assumption) ?_; rotate_left; (focus (intro w' hSw; (try dsimp only at hSw); go_simp; try with_reducible rfl)); simp only [Act.put, List.setIfInBounds_toArray, List.set_cons_zero, List.set_cons_succ])
                  (refine wpAnyZ_takeN (i := 8) (v := ?_) rfl (by kernel_rfl) (fun _ _ _ h => h) (Or.inl ⟨by rfl, ?_⟩) (by assumption) ?_; rotate_left; (focus (intro w' hSw; (try dsimp only at hSw); go_simp; try with_reducible rfl)); simp only [Act.put, List.setIfInBounds_toArray, List.set_cons_zero, List.set_cons_succ])
                  (refine wpAnyZ_takeN (i := 9) (v := ?_) rfl (by kernel_rfl) (fun _ _ _ h => h) (Or.inl ⟨by rfl, ?_⟩) (by assumption) ?_; rotate_left; (focus (intro w' hSw; (try dsimp only at hSw); go_simp; try with_reducible rfl)); simp only [Act.put, List.setIfInBounds_toArray, List.set_cons_zero, List.set_cons_succ])
                  have hne : b7 ≠ b8 := fun e => by have h7 := HB7.out; rw [e, HB8.out] at h7; simp at h7
                  have q0 := blk_cell HB7.out 0 _ rfl
                  have qf0 := blk_free HB7.out 0
                  have q1 := blk_cell HB7.out 1 _ rfl
                  have qf1 := blk_free HB7.out 1
                  have q2 := blk_cell HB7.out 2 _ rfl
                  have qf2 := blk_free HB7.out 2
                  have hk7 : Kept u4 (((u4.setCell ⟨b7, 0, none⟩ (.slice b1 m1 d1)).setCell ⟨b7, 1, none⟩ (.slice b2 m2 d2)).setCell ⟨b7, 2, none⟩ (.slice b3 m3 d3)) (fun b => b = b7) := ((((Kept.refl u4 (fun b => b = b7)).set (a := ⟨b7, 0, none⟩) rfl (.slice b1 m1 d1)).set (a := ⟨b7, 1, none⟩) rfl (.slice b2 m2 d2)).set (a := ⟨b7, 2, none⟩) rfl (.slice b3 m3 d3))
                  have HG : Hid (FSit w (((u4.setCell ⟨b7, 0, none⟩ (.slice b1 m1 d1)).setCell ⟨b7, 1, none⟩ (.slice b2 m2 d2)).setCell ⟨b7, 2, none⟩ (.slice b3 m3 d3)) cb ao n c (90000000000000 + 4 + 302 * i + 300) ob x a1 a2 a3 c1 c2 c3 L C A B D E) := HF4.out.other hcb HL.out hk7 HB7.out (by decide) lb7
                  have HNX7 : Hid (NextOff w.heap.size x.san b1 b2 b3 m1 m2 m3 d1 d2 d3 tb (((u4.setCell ⟨b7, 0, none⟩ (.slice b1 m1 d1)).setCell ⟨b7, 1, none⟩ (.slice b2 m2 d2)).setCell ⟨b7, 2, none⟩ (.slice b3 m3 d3))) := HNX.out.box hk7 HB7.out (by decide)
                  have HC7 : Hid ((((u4.setCell ⟨b7, 0, none⟩ (.slice b1 m1 d1)).setCell ⟨b7, 1, none⟩ (.slice b2 m2 d2)).setCell ⟨b7, 2, none⟩ (.slice b3 m3 d3)).heap[b7]? = some (.cells #[.slice b1 m1 d1, .slice b2 m2 d2, .slice b3 m3 d3] 66 (0, 0))) := off3_n HB7.out _ _ _
                  have HD8 : Hid ((((u4.setCell ⟨b7, 0, none⟩ (.slice b1 m1 d1)).setCell ⟨b7, 1, none⟩ (.slice b2 m2 d2)).setCell ⟨b7, 2, none⟩ (.slice b3 m3 d3)).heap[b8]? = some (.cells #[.int .i64 0, .int .i64 0, .int .i64 0, .slice none 0 0] 127 (0, 0))) := hk7.blk HB8.out (show ¬ b8 = b7 from fun e => hne e.symm)
                  refine wpAnyZ_ready (rs := [12]) (by kernel_rfl) (by simp) ?_
                  refine AllReadyZ.consL rfl (fun K hK => ?_) AllReadyZ.nil
                  go_simp
                  refine hK.out _ _ HG.out.s (fun hS => ?_)
                  clear hK K HF4 hk7 HNX HB7 HB8 q0 q1 q2 qf0 qf1 qf2
                  simp only [List.set_cons_zero, List.set_cons_succ]
                  generalize (((u4.setCell ⟨b7, 0, none⟩ (.slice b1 m1 d1)).setCell ⟨b7, 1, none⟩ (.slice b2 m2 d2)).setCell ⟨b7, 2, none⟩ (.slice b3 m3 d3)) = v7 at HG HNX7 HC7 HD8 hS ⊢
                  have q0 := blk_cell HD8.out 0 _ rfl
                  have qf0 := blk_free HD8.out 0
                  have q1 := blk_cell HD8.out 1 _ rfl
                  have qf1 := blk_free HD8.out 1
                  have q2 := blk_cell HD8.out 2 _ rfl
                  have qf2 := blk_free HD8.out 2
                  have q3 := blk_cell HD8.out 3 _ rfl
                  have qf3 := blk_free HD8.out 3
                  have hk8 : Kept v7 ((((v7.setCell ⟨b8, 0, none⟩ (.int .i64 k1)).setCell ⟨b8, 1, none⟩ (.int .i64 k2)).setCell ⟨b8, 2, none⟩ (.int .i64 k3)).setCell ⟨b8, 3, none⟩ (.slice b4 m4 d4)) (fun b => b = b8) := (((((Kept.refl v7 (fun b => b = b8)).set (a := ⟨b8, 0, none⟩) rfl (.int .i64 k1)).set (a := ⟨b8, 1, none⟩) rfl (.int .i64 k2)).set (a := ⟨b8, 2, none⟩) rfl (.int .i64 k3)).set (a := ⟨b8, 3, none⟩) rfl (.slice b4 m4 d4))
                  have HH : Hid (FSit w ((((v7.setCell ⟨b8, 0, none⟩ (.int .i64 k1)).setCell ⟨b8, 1, none⟩ (.int .i64 k2)).setCell ⟨b8, 2, none⟩ (.int .i64 k3)).setCell ⟨b8, 3, none⟩ (.slice b4 m4 d4)) cb ao n c (90000000000000 + 4 + 302 * i + 300) ob x a1 a2 a3 c1 c2 c3 L C A B D E) := HG.out.other hcb HL.out hk8 HD8.out (by decide) lb8
                  have HNX8 : Hid (NextOff w.heap.size x.san b1 b2 b3 m1 m2 m3 d1 d2 d3 tb ((((v7.setCell ⟨b8, 0, none⟩ (.int .i64 k1)).setCell ⟨b8, 1, none⟩ (.int .i64 k2)).setCell ⟨b8, 2, none⟩ (.int .i64 k3)).setCell ⟨b8, 3, none⟩ (.slice b4 m4 d4))) := HNX7.out.box hk8 HD8.out (by decide)
                  have HC8 : Hid (((((v7.setCell ⟨b8, 0, none⟩ (.int .i64 k1)).setCell ⟨b8, 1, none⟩ (.int .i64 k2)).setCell ⟨b8, 2, none⟩ (.int .i64 k3)).setCell ⟨b8, 3, none⟩ (.slice b4 m4 d4)).heap[b7]? = some (.cells #[.slice b1 m1 d1, .slice b2 m2 d2, .slice b3 m3 d3] 66 (0, 0))) := hk8.blk HC7.out hne
                  refine wpAnyZ_ready (rs := [13]) (by kernel_rfl) (by simp) ?_
                  refine AllReadyZ.consL rfl (fun K hK => ?_) AllReadyZ.nil
                  go_simp
                  refine hK.out _ _ HH.out.s (fun hS => ?_)
                  clear hK K HG hk8 HNX7 HC7 HD8 q0 q1 q2 q3 qf0 qf1 qf2 qf3
                  simp only [List.set_cons_zero, List.set_cons_succ]
                  generalize ((((v7.setCell ⟨b8, 0, none⟩ (.int .i64 k1)).setCell ⟨b8, 1, none⟩ (.int .i64 k2)).setCell ⟨b8, 2, none⟩ (.int .i64 k3)).setCell ⟨b8, 3, none⟩ (.slice b4 m4 d4)) = v8 at HH HNX8 HC8 hS ⊢
                  refine wpAnyZ_ready (rs := [14]) (by kernel_rfl) (by simp) ?_
                  refine AllReadyZ.consL rfl (fun K hK => ?_) AllReadyZ.nil
                  go_simp
                  refine hK.out _ _ HH.out.s (fun hS => ?_)
                  clear hK K
                  simp only [List.set_cons_zero, List.set_cons_succ]
                  refine wpAnyZ_done (by kernel_rfl) ?_ _
                  go_wp2
                  go_meet
                  exact ⟨b7, tb, b1, b2, b3, m1, m2, m3, d1, d2, d3, rfl, rfl, lb7, HC8, HNX8, HH⟩
                exact AllReadyZ.nil
              exact AllReadyZ.nil
            refine AllReadyZ.consL rfl (fun K hK => ?_) ?_
            · go_simp
              have HF2 : Hid (FSit w (u1.alloc (.cells #[.int .i64 0, .int .i64 0, .int .i64 0, .slice none 0 0] 127)) cb ao n c (90000000000000 + 4 + 302 * i + 300) ob x a1 a2 a3 c1 c2 c3 L C A B D E) := HF1.out.below (push (Below.refl _ _) _)
              have HB8 : Hid ((u1.alloc (.cells #[.int .i64 0, .int .i64 0, .int .i64 0, .slice none 0 0] 127)).heap[u1.heap.size]? = some (.cells #[.int .i64 0, .int .i64 0, .int .i64 0, .slice none 0 0] 127 (0, 0))) := heap_alloc_new u1 _
              have lb8 : ob < u1.heap.size := HF1.out.ob_lt
              replace HLG : Hid ((u1.alloc (.cells #[.int .i64 0, .int .i64 0, .int .i64 0, .slice none 0 0] 127)).ownsRow w.heap.size 3 1 (.slice ag y.lgn cg) y.lgn (intList y.lg y.lgn)) := own_below (push (Below.refl _ _) _) HLG.out
              refine hK.out _ _ HF2.out.s (fun hS => ?_)
              clear hK K HF1
              simp only [List.set_cons_zero, List.set_cons_succ]
              generalize (u1.alloc (.cells #[.int .i64 0, .int .i64 0, .int .i64 0, .slice none 0 0] 127)) = u2 at HF2 HB8 HLG hS ⊢
              generalize u1.heap.size = b8 at HB8 lb8 ⊢
              refine wpAnyZ_ready (rs := [5, 10]) (by kernel_rfl) (by simp) ?_
              refine AllReadyZ.consL rfl (fun K hK => ?_) ?_
              · go_simp
                go_at_call 80
                refine Calls.mono (dop_next x a1 a2 a3 ag c1 c2 c3 cg (i : Int) y u2 hx3 HF2.out.own.sa.at HF2.out.own.ld.at HF2.out.own.bk.at HF2.out.cap (own_ints HLG.out) (own_ok HLG.out) (by omega) (by omega)) ?_
                rintro e u3 ⟨⟨b1, b2, b3, b4, m1, m2, m3, m4, d1, d2, d3, d4, k1, k2, k3, tb, rfl, hnx⟩, hbN⟩
                dsimp only
                have HF3 : Hid (FSit w u3 cb ao n c (90000000000000 + 4 + 302 * i + 300) ob x a1 a2 a3 c1 c2 c3 L C A B D E) := HF2.out.below hbN
                have HNX : Hid (NextOff w.heap.size x.san b1 b2 b3 m1 m2 m3 d1 d2 d3 tb u3) := hnx.out.lower HF2.out.kept.size
                replace HB8 : Hid (u3.heap[b8]? = some (.cells #[.int .i64 0, .int .i64 0, .int .i64 0, .slice none 0 0] 127 (0, 0))) := blk_below HB8.out hbN
                refine hK.out _ _ HF3.out.s (fun hS => ?_)
                clear hK K HF2 hbN hnx HLG
                simp only [List.set_cons_zero, List.set_cons_succ]
                (refine wpAnyZ_takeN (i := 6) (v := ?_) rfl (by kernel_rfl) (fun _ _ _ h => h) (Or.inl ⟨by rfl, ?_⟩) (by assumption) ?_; rotate_left; (focus (intro w' hSw; (try dsimp only at hSw); go_simp; try with_reducible rfl)); simp only [Act.put, List.setIfInBounds_toArray, List.set_cons_zero, List.set_cons_succ])
                (refine wpAnyZ_takeN (i := 7) (v := ?_) rfl (by kernel_rfl) (fun _ _ _ h => h) (Or.inl ⟨by rfl, ?_⟩) (by assumption) ?_; rotate_left; (focus (intro w' hSw; (try dsimp only at hSw); go_simp; try with_reducible rfl)); simp only [Act.put, List.setIfInBounds_toArray, List.set_cons_zero, List.set_cons_succ])
                (refine wpAnyZ_takeN (i := 8) (v := ?_) rfl (by kernel_rfl) (fun _ _ _ h => h) (Or.inl ⟨by rfl, ?_⟩) (by assumption) ?_; rotate_left; (focus (intro w' hSw; (try dsimp only at hSw); go_simp; try with_reducible rfl)); simp only [Act.put, List.setIfInBounds_toArray, List.set_cons_zero, List.set_cons_succ])
                (refine wpAnyZ_takeN (i := 9) (v := ?_) rfl (by kernel_rfl) (fun _ _ _ h => h) (Or.inl ⟨by rfl, ?_⟩) (by assumption) ?_; rotate_left; (focus (intro w' hSw; (try dsimp only at hSw); go_simp; try with_reducible rfl)); simp only [Act.put, List.setIfInBounds_toArray, List.set_cons_zero, List.set_cons_succ])
                refine wpAnyZ_ready (rs := [10]) (by kernel_rfl) (by simp) ?_
                refine AllReadyZ.consL rfl (fun K hK => ?_) ?_
                · go_simp
                  have HF4 : Hid (FSit w (u3.alloc (.cells #[.slice none 0 0, .slice none 0 0, .slice none 0 0] 66)) cb ao n c (90000000000000 + 4 + 302 * i + 300) ob x a1 a2 a3 c1 c2 c3 L C A B D E) := HF3.out.below (push (Below.refl _ _) _)
                  have HB7 : Hid ((u3.alloc (.cells #[.slice none 0 0, .slice none 0 0, .slice none 0 0] 66)).heap[u3.heap.size]? = some (.cells #[.slice none 0 0, .slice none 0 0, .slice none 0 0] 66 (0, 0))) := heap_alloc_new u3 _
                  have lb7 : ob < u3.heap.size := HF3.out.ob_lt
                  replace HB8 : Hid ((u3.alloc (.cells #[.slice none 0 0, .slice none 0 0, .slice none 0 0] 66)).heap[b8]? = some (.cells #[.int .i64 0, .int .i64 0, .int .i64 0, .slice none 0 0] 127 (0, 0))) := blk_alloc HB8.out _
                  replace HNX : Hid (NextOff w.heap.size x.san b1 b2 b3 m1 m2 m3 d1 d2 d3 tb (u3.alloc (.cells #[.slice none 0 0, .slice none 0 0, .slice none 0 0] 66))) := HNX.out.below (push (Below.refl _ _) _)
                  refine hK.out _ _ HF4.out.s (fun hS => ?_)
                  clear hK K HF3
                  simp only [List.set_cons_zero, List.set_cons_succ]
                  generalize (u3.alloc (.cells #[.slice none 0 0, .slice none 0 0, .slice none 0 0] 66)) = u4 at HF4 HB7 HB8 HNX hS ⊢
                  generalize u3.heap.size = b7 at HB7 lb7 ⊢
                  have hne : b7 ≠ b8 := fun e => by have h7 := HB7.out; rw [e, HB8.out] at h7; simp at h7
                  have q0 := blk_cell HB7.out 0 _ rfl
                  have qf0 := blk_free HB7.out 0
                  have q1 := blk_cell HB7.out 1 _ rfl
                  have qf1 := blk_free HB7.out 1
                  have q2 := blk_cell HB7.out 2 _ rfl
                  have qf2 := blk_free HB7.out 2
                  have hk7 : Kept u4 (((u4.setCell ⟨b7, 0, none⟩ (.slice b1 m1 d1)).setCell ⟨b7, 1, none⟩ (.slice b2 m2 d2)).setCell ⟨b7, 2, none⟩ (.slice b3 m3 d3)) (fun b => b = b7) := ((((Kept.refl u4 (fun b => b = b7)).set (a := ⟨b7, 0, none⟩) rfl (.slice b1 m1 d1)).set (a := ⟨b7, 1, none⟩) rfl (.slice b2 m2 d2)).set (a := ⟨b7, 2, none⟩) rfl (.slice b3 m3 d3))
                  have HG : Hid (FSit w (((u4.setCell ⟨b7, 0, none⟩ (.slice b1 m1 d1)).setCell ⟨b7, 1, none⟩ (.slice b2 m2 d2)).setCell ⟨b7, 2, none⟩ (.slice b3 m3 d3)) cb ao n c (90000000000000 + 4 + 302 * i + 300) ob x a1 a2 a3 c1 c2 c3 L C A B D E) := HF4.out.other hcb HL.out hk7 HB7.out (by decide) lb7
                  have HNX7 : Hid (NextOff w.heap.size x.san b1 b2 b3 m1 m2 m3 d1 d2 d3 tb (((u4.setCell ⟨b7, 0, none⟩ (.slice b1 m1 d1)).setCell ⟨b7, 1, none⟩ (.slice b2 m2 d2)).setCell ⟨b7, 2, none⟩ (.slice b3 m3 d3))) := HNX.out.box hk7 HB7.out (by decide)
                  have HC7 : Hid ((((u4.setCell ⟨b7, 0, none⟩ (.slice b1 m1 d1)).setCell ⟨b7, 1, none⟩ (.slice b2 m2 d2)).setCell ⟨b7, 2, none⟩ (.slice b3 m3 d3)).heap[b7]? = some (.cells #[.slice b1 m1 d1, .slice b2 m2 d2, .slice b3 m3 d3] 66 (0, 0))) := off3_n HB7.out _ _ _
                  have HD8 : Hid ((((u4.setCell ⟨b7, 0, none⟩ (.slice b1 m1 d1)).setCell ⟨b7, 1, none⟩ (.slice b2 m2 d2)).setCell ⟨b7, 2, none⟩ (.slice b3 m3 d3)).heap[b8]? = some (.cells #[.int .i64 0, .int .i64 0, .int .i64 0, .slice none 0 0] 127 (0, 0))) := hk7.blk HB8.out (show ¬ b8 = b7 from fun e => hne e.symm)
                  refine wpAnyZ_ready (rs := [12]) (by kernel_rfl) (by simp) ?_
                  refine AllReadyZ.consL rfl (fun K hK => ?_) AllReadyZ.nil
                  go_simp
                  refine hK.out _ _ HG.out.s (fun hS => ?_)
                  clear hK K HF4 hk7 HNX HB7 HB8 q0 q1 q2 qf0 qf1 qf2
                  simp only [List.set_cons_zero, List.set_cons_succ]
                  generalize (((u4.setCell ⟨b7, 0, none⟩ (.slice b1 m1 d1)).setCell ⟨b7, 1, none⟩ (.slice b2 m2 d2)).setCell ⟨b7, 2, none⟩ (.slice b3 m3 d3)) = v7 at HG HNX7 HC7 HD8 hS ⊢
                  have q0 := blk_cell HD8.out 0 _ rfl
                  have qf0 := blk_free HD8.out 0
                  have q1 := blk_cell HD8.out 1 _ rfl
                  have qf1 := blk_free HD8.out 1
                  have q2 := blk_cell HD8.out 2 _ rfl
                  have qf2 := blk_free HD8.out 2
                  have q3 := blk_cell HD8.out 3 _ rfl
                  have qf3 := blk_free HD8.out 3
                  have hk8 : Kept v7 ((((v7.setCell ⟨b8, 0, none⟩ (.int .i64 k1)).setCell ⟨b8, 1, none⟩ (.int .i64 k2)).setCell ⟨b8, 2, none⟩ (.int .i64 k3)).setCell ⟨b8, 3, none⟩ (.slice b4 m4 d4)) (fun b => b = b8) := (((((Kept.refl v7 (fun b => b = b8)).set (a := ⟨b8, 0, none⟩) rfl (.int .i64 k1)).set (a := ⟨b8, 1, none⟩) rfl (.int .i64 k2)).set (a := ⟨b8, 2, none⟩) rfl (.int .i64 k3)).set (a := ⟨b8, 3, none⟩) rfl (.slice b4 m4 d4))
                  have HH : Hid (FSit w ((((v7.setCell ⟨b8, 0, none⟩ (.int .i64 k1)).setCell ⟨b8, 1, none⟩ (.int .i64 k2)).setCell ⟨b8, 2, none⟩ (.int .i64 k3)).setCell ⟨b8, 3, none⟩ (.slice b4 m4 d4)) cb ao n c (90000000000000 + 4 + 302 * i + 300) ob x a1 a2 a3 c1 c2 c3 L C A B D E) := HG.out.other hcb HL.out hk8 HD8.out (by decide) lb8
                  have HNX8 : Hid (NextOff w.heap.size x.san b1 b2 b3 m1 m2 m3 d1 d2 d3 tb ((((v7.setCell ⟨b8, 0, none⟩ (.int .i64 k1)).setCell ⟨b8, 1, none⟩ (.int .i64 k2)).setCell ⟨b8, 2, none⟩ (.int .i64 k3)).setCell ⟨b8, 3, none⟩ (.slice b4 m4 d4))) := HNX7.out.box hk8 HD8.out (by decide)
                  have HC8 : Hid (((((v7.setCell ⟨b8, 0, none⟩ (.int .i64 k1)).setCell ⟨b8, 1, none⟩ (.int .i64 k2)).setCell ⟨b8, 2, none⟩ (.int .i64 k3)).setCell ⟨b8, 3, none⟩ (.slice b4 m4 d4)).heap[b7]? = some (.cells #[.slice b1 m1 d1, .slice b2 m2 d2, .slice b3 m3 d3] 66 (0, 0))) := hk8.blk HC7.out hne
                  refine wpAnyZ_ready (rs := [13]) (by kernel_rfl) (by simp) ?_
                  refine AllReadyZ.consL rfl (fun K hK => ?_) AllReadyZ.nil
                  go_simp
                  refine hK.out _ _ HH.out.s (fun hS => ?_)
                  clear hK K HG hk8 HNX7 HC7 HD8 q0 q1 q2 q3 qf0 qf1 qf2 qf3
                  simp only [List.set_cons_zero, List.set_cons_succ]
                  generalize ((((v7.setCell ⟨b8, 0, none⟩ (.int .i64 k1)).setCell ⟨b8, 1, none⟩ (.int .i64 k2)).setCell ⟨b8, 2, none⟩ (.int .i64 k3)).setCell ⟨b8, 3, none⟩ (.slice b4 m4 d4)) = v8 at HH HNX8 HC8 hS ⊢
                  refine wpAnyZ_ready (rs := [14]) (by kernel_rfl) (by simp) ?_
                  refine AllReadyZ.consL rfl (fun K hK => ?_) AllReadyZ.nil
                  go_simp
                  refine hK.out _ _ HH.out.s (fun hS => ?_)
                  clear hK K
                  simp only [List.set_cons_zero, List.set_cons_succ]
                  refine wpAnyZ_done (by kernel_rfl) ?_ _
                  go_wp2
                  go_meet
                  exact ⟨b7, tb, b1, b2, b3, m1, m2, m3, d1, d2, d3, rfl, rfl, lb7, HC8, HNX8, HH⟩
                exact AllReadyZ.nil
              refine AllReadyZ.consL rfl (fun K hK => ?_) ?_
              · go_simp
                have HF3 : Hid (FSit w (u2.alloc (.cells #[.slice none 0 0, .slice none 0 0, .slice none 0 0] 66)) cb ao n c (90000000000000 + 4 + 302 * i + 300) ob x a1 a2 a3 c1 c2 c3 L C A B D E) := HF2.out.below (push (Below.refl _ _) _)
                have HB7 : Hid ((u2.alloc (.cells #[.slice none 0 0, .slice none 0 0, .slice none 0 0] 66)).heap[u2.heap.size]? = some (.cells #[.slice none 0 0, .slice none 0 0, .slice none 0 0] 66 (0, 0))) := heap_alloc_new u2 _
                have lb7 : ob < u2.heap.size := HF2.out.ob_lt
                replace HB8 : Hid ((u2.alloc (.cells #[.slice none 0 0, .slice none 0 0, .slice none 0 0] 66)).heap[b8]? = some (.cells #[.int .i64 0, .int .i64 0, .int .i64 0, .slice none 0 0] 127 (0, 0))) := blk_alloc HB8.out _
                replace HLG : Hid ((u2.alloc (.cells #[.slice none 0 0, .slice none 0 0, .slice none 0 0] 66)).ownsRow w.heap.size 3 1 (.slice ag y.lgn cg) y.lgn (intList y.lg y.lgn)) := own_below (push (Below.refl _ _) _) HLG.out
                refine hK.out _ _ HF3.out.s (fun hS => ?_)
                clear hK K HF2
                simp only [List.set_cons_zero, List.set_cons_succ]
                generalize (u2.alloc (.cells #[.slice none 0 0, .slice none 0 0, .slice none 0 0] 66)) = u3 at HF3 HB7 HB8 HLG hS ⊢
                generalize u2.heap.size = b7 at HB7 lb7 ⊢
                refine wpAnyZ_ready (rs := [5]) (by kernel_rfl) (by simp) ?_
                refine AllReadyZ.consL rfl (fun K hK => ?_) ?_
                · go_simp
                  go_at_call 80
                  refine Calls.mono (dop_next x a1 a2 a3 ag c1 c2 c3 cg (i : Int) y u3 hx3 HF3.out.own.sa.at HF3.out.own.ld.at HF3.out.own.bk.at HF3.out.cap (own_ints HLG.out) (own_ok HLG.out) (by omega) (by omega)) ?_
                  rintro e u4 ⟨⟨b1, b2, b3, b4, m1, m2, m3, m4, d1, d2, d3, d4, k1, k2, k3, tb, rfl, hnx⟩, hbN⟩
                  dsimp only
                  have HF4 : Hid (FSit w u4 cb ao n c (90000000000000 + 4 + 302 * i + 300) ob x a1 a2 a3 c1 c2 c3 L C A B D E) := HF3.out.below hbN
                  have HNX : Hid (NextOff w.heap.size x.san b1 b2 b3 m1 m2 m3 d1 d2 d3 tb u4) := hnx.out.lower HF3.out.kept.size
                  replace HB7 : Hid (u4.heap[b7]? = some (.cells #[.slice none 0 0, .slice none 0 0, .slice none 0 0] 66 (0, 0))) := blk_below HB7.out hbN
                  replace HB8 : Hid (u4.heap[b8]? = some (.cells #[.int .i64 0, .int .i64 0, .int .i64 0, .slice none 0 0] 127 (0, 0))) := blk_below HB8.out hbN
                  refine hK.out _ _ HF4.out.s (fun hS => ?_)
                  clear hK K HF3 hbN hnx HLG
                  simp only [List.set_cons_zero, List.set_cons_succ]
                  (refine wpAnyZ_takeN (i := 6) (v := ?_) rfl (by kernel_rfl) (fun _ _ _ h => h) (Or.inl ⟨by rfl, ?_⟩) (by assumption) ?_; rotate_left; (focus (intro w' hSw; (try dsimp only at hSw); go_simp; try with_reducible rfl)); simp only [Act.put, List.setIfInBounds_toArray, List.set_cons_zero, List.set_cons_succ])
                  (refine wpAnyZ_takeN (i := 7) (v := ?_) rfl (by kernel_rfl) (fun _ _ _ h => h) (Or.inl ⟨by rfl, ?_⟩) (by assumption) ?_; rotate_left; (focus (intro w' hSw; (try dsimp only at hSw); go_simp; try with_reducible rfl)); simp only [Act.put, List.setIfInBounds_toArray, List.set_cons_zero, List.set_cons_succ])
                  (refine wpAnyZ_takeN (i := 8) (v := ?_) rfl (by kernel_rfl) (fun _ _ _ h => h) (Or.inl ⟨by rfl, ?_⟩) (by assumption) ?_; rotate_left; (focus (intro w' hSw; (try dsimp only at hSw); go_simp; try with_reducible rfl)); simp only [Act.put, List.setIfInBounds_toArray, List.set_cons_zero, List.set_cons_succ])
                  (refine wpAnyZ_takeN (i := 9) (v := ?_) rfl (by kernel_rfl) (fun _ _ _ h => h) (Or.inl ⟨by rfl, ?_⟩) (by assumption) ?_; rotate_left; (focus (intro w' hSw; (try dsimp only at hSw); go_simp; try with_reducible rfl)); simp only [Act.put, List.setIfInBounds_toArray, List.set_cons_zero, List.set_cons_succ])
                  have hne : b7 ≠ b8 := fun e => by have h7 := HB7.out; rw [e, HB8.out] at h7; simp at h7
                  have q0 := blk_cell HB7.out 0 _ rfl
                  have qf0 := blk_free HB7.out 0
                  have q1 := blk_cell HB7.out 1 _ rfl
                  have qf1 := blk_free HB7.out 1
                  have q2 := blk_cell HB7.out 2 _ rfl
                  have qf2 := blk_free HB7.out 2
                  have hk7 : Kept u4 (((u4.setCell ⟨b7, 0, none⟩ (.slice b1 m1 d1)).setCell ⟨b7, 1, none⟩ (.slice b2 m2 d2)).setCell ⟨b7, 2, none⟩ (.slice b3 m3 d3)) (fun b => b = b7) := ((((Kept.refl u4 (fun b => b = b7)).set (a := ⟨b7, 0, none⟩) rfl (.slice b1 m1 d1)).set (a := ⟨b7, 1, none⟩) rfl (.slice b2 m2 d2)).set (a := ⟨b7, 2, none⟩) rfl (.slice b3 m3 d3))
                  have HG : Hid (FSit w (((u4.setCell ⟨b7, 0, none⟩ (.slice b1 m1 d1)).setCell ⟨b7, 1, none⟩ (.slice b2 m2 d2)).setCell ⟨b7, 2, none⟩ (.slice b3 m3 d3)) cb ao n c (90000000000000 + 4 + 302 * i + 300) ob x a1 a2 a3 c1 c2 c3 L C A B D E) := HF4.out.other hcb HL.out hk7 HB7.out (by decide) lb7
                  have HNX7 : Hid (NextOff w.heap.size x.san b1 b2 b3 m1 m2 m3 d1 d2 d3 tb (((u4.setCell ⟨b7, 0, none⟩ (.slice b1 m1 d1)).setCell ⟨b7, 1, none⟩ (.slice b2 m2 d2)).setCell ⟨b7, 2, none⟩ (.slice b3 m3 d3))) := HNX.out.box hk7 HB7.out (by decide)
                  have HC7 : Hid ((((u4.setCell ⟨b7, 0, none⟩ (.slice b1 m1 d1)).setCell ⟨b7, 1, none⟩ (.slice b2 m2 d2)).setCell ⟨b7, 2, none⟩ (.slice b3 m3 d3)).heap[b7]? = some (.cells #[.slice b1 m1 d1, .slice b2 m2 d2, .slice b3 m3 d3] 66 (0, 0))) := off3_n HB7.out _ _ _
                  have HD8 : Hid ((((u4.setCell ⟨b7, 0, none⟩ (.slice b1 m1 d1)).setCell ⟨b7, 1, none⟩ (.slice b2 m2 d2)).setCell ⟨b7, 2, none⟩ (.slice b3 m3 d3)).heap[b8]? = some (.cells #[.int .i64 0, .int .i64 0, .int .i64 0, .slice none 0 0] 127 (0, 0))) := hk7.blk HB8.out (show ¬ b8 = b7 from fun e => hne e.symm)
                  refine wpAnyZ_ready (rs := [12]) (by kernel_rfl) (by simp) ?_
                  refine AllReadyZ.consL rfl (fun K hK => ?_) AllReadyZ.nil
                  go_simp
                  refine hK.out _ _ HG.out.s (fun hS => ?_)
                  clear hK K HF4 hk7 HNX HB7 HB8 q0 q1 q2 qf0 qf1 qf2
                  simp only [List.set_cons_zero, List.set_cons_succ]
                  generalize (((u4.setCell ⟨b7, 0, none⟩ (.slice b1 m1 d1)).setCell ⟨b7, 1, none⟩ (.slice b2 m2 d2)).setCell ⟨b7, 2, none⟩ (.slice b3 m3 d3)) = v7 at HG HNX7 HC7 HD8 hS ⊢
                  have q0 := blk_cell HD8.out 0 _ rfl
                  have qf0 := blk_free HD8.out 0
                  have q1 := blk_cell HD8.out 1 _ rfl
                  have qf1 := blk_free HD8.out 1
                  have q2 := blk_cell HD8.out 2 _ rfl
                  have qf2 := blk_free HD8.out 2
                  have q3 := blk_cell HD8.out 3 _ rfl
                  have qf3 := blk_free HD8.out 3
                  have hk8 : Kept v7 ((((v7.setCell ⟨b8, 0, none⟩ (.int .i64 k1)).setCell ⟨b8, 1, none⟩ (.int .i64 k2)).setCell ⟨b8, 2, none⟩ (.int .i64 k3)).setCell ⟨b8, 3, none⟩ (.slice b4 m4 d4)) (fun b => b = b8) := (((((Kept.refl v7 (fun b => b = b8)).set (a := ⟨b8, 0, none⟩) rfl (.int .i64 k1)).set (a := ⟨b8, 1, none⟩) rfl (.int .i64 k2)).set (a := ⟨b8, 2, none⟩) rfl (.int .i64 k3)).set (a := ⟨b8, 3, none⟩) rfl (.slice b4 m4 d4))
                  have HH : Hid (FSit w ((((v7.setCell ⟨b8, 0, none⟩ (.int .i64 k1)).setCell ⟨b8, 1, none⟩ (.int .i64 k2)).setCell ⟨b8, 2, none⟩ (.int .i64 k3)).setCell ⟨b8, 3, none⟩ (.slice b4 m4 d4)) cb ao n c (90000000000000 + 4 + 302 * i + 300) ob x a1 a2 a3 c1 c2 c3 L C A B D E) := HG.out.other hcb HL.out hk8 HD8.out (by decide) lb8
                  have HNX8 : Hid (NextOff w.heap.size x.san b1 b2 b3 m1 m2 m3 d1 d2 d3 tb ((((v7.setCell ⟨b8, 0, none⟩ (.int .i64 k1)).setCell ⟨b8, 1, none⟩ (.int .i64 k2)).setCell ⟨b8, 2, none⟩ (.int .i64 k3)).setCell ⟨b8, 3, none⟩ (.slice b4 m4 d4))) := HNX7.out.box hk8 HD8.out (by decide)
                  have HC8 : Hid (((((v7.setCell ⟨b8, 0, none⟩ (.int .i64 k1)).setCell ⟨b8, 1, none⟩ (.int .i64 k2)).setCell ⟨b8, 2, none⟩ (.int .i64 k3)).setCell ⟨b8, 3, none⟩ (.slice b4 m4 d4)).heap[b7]? = some (.cells #[.slice b1 m1 d1, .slice b2 m2 d2, .slice b3 m3 d3] 66 (0, 0))) := hk8.blk HC7.out hne
                  refine wpAnyZ_ready (rs := [13]) (by kernel_rfl) (by simp) ?_
                  refine AllReadyZ.consL rfl (fun K hK => ?_) AllReadyZ.nil
                  go_simp
                  refine hK.out _ _ HH.out.s (fun hS => ?_)
                  clear hK K HG hk8 HNX7 HC7 HD8 q0 q1 q2 q3 qf0 qf1 qf2 qf3
                  simp only [List.set_cons_zero, List.set_cons_succ]
                  generalize ((((v7.setCell ⟨b8, 0, none⟩ (.int .i64 k1)).setCell ⟨b8, 1, none⟩ (.int .i64 k2)).setCell ⟨b8, 2, none⟩ (.int .i64 k3)).setCell ⟨b8, 3, none⟩ (.slice b4 m4 d4)) = v8 at HH HNX8 HC8 hS ⊢
                  refine wpAnyZ_ready (rs := [14]) (by kernel_rfl) (by simp) ?_
                  refine AllReadyZ.consL rfl (fun K hK => ?_) AllReadyZ.nil
                  go_simp
                  refine hK.out _ _ HH.out.s (fun hS => ?_)
                  clear hK K
                  simp only [List.set_cons_zero, List.set_cons_succ]
                  refine wpAnyZ_done (by kernel_rfl) ?_ _
                  go_wp2
                  go_meet
                  exact ⟨b7, tb, b1, b2, b3, m1, m2, m3, d1, d2, d3, rfl, rfl, lb7, HC8, HNX8, HH⟩
                exact AllReadyZ.nil
              exact AllReadyZ.nil
            exact AllReadyZ.nil
          refine AllReadyZ.consL rfl (fun K hK => ?_) ?_
          · go_simp
            have HF1 : Hid (FSit w (u0.alloc (.cells #[.slice none 0 0, .slice none 0 0, .slice none 0 0] 66)) cb ao n c (90000000000000 + 4 + 302 * i) ob x a1 a2 a3 c1 c2 c3 L C A B D E) := HF0.out.below (push (Below.refl _ _) _)
            have HB7 : Hid ((u0.alloc (.cells #[.slice none 0 0, .slice none 0 0, .slice none 0 0] 66)).heap[u0.heap.size]? = some (.cells #[.slice none 0 0, .slice none 0 0, .slice none 0 0] 66 (0, 0))) := heap_alloc_new u0 _
            have lb7 : ob < u0.heap.size := HF0.out.ob_lt
            refine hK.out _ _ HF1.out.s (fun hS => ?_)
            clear hK K HF0
            simp only [List.set_cons_zero, List.set_cons_succ]
            generalize (u0.alloc (.cells #[.slice none 0 0, .slice none 0 0, .slice none 0 0] 66)) = u1 at HF1 HB7 hS ⊢
            generalize u0.heap.size = b7 at HB7 lb7 ⊢
            refine wpAnyZ_ready (rs := [4, 11]) (by kernel_rfl) (by simp) ?_
            refine AllReadyZ.consL rfl (fun K hK => ?_) ?_
            · go_simp
              go_at_call 29
              refine Calls.mono (op_any cb ao n c (90000000000000 + 4 + 302 * i) a1 a2 a3 x.san c1 x.ldn c2 x.bkn c3 x.sa u1 (by omega) (by omega) (by omega) HF1.out.cur HF1.out.sails) ?_
              rintro e u2 ⟨⟨y, ag, cg, rfl, hy1, hy2, hlg⟩, hcN, hkN⟩
              dsimp only
              have HF2 : Hid (FSit w u2 cb ao n c (90000000000000 + 4 + 302 * i + 300) ob x a1 a2 a3 c1 c2 c3 L C A B D E) := HF1.out.on hcb hcN hkN
              have HLG : Hid (u2.ownsRow w.heap.size 3 1 (.slice ag y.lgn cg) y.lgn (intList y.lg y.lgn)) := own_base hlg HF1.out.kept.size
              have hwo := HF1.out.lt
              replace HB7 : Hid (u2.heap[b7]? = some (.cells #[.slice none 0 0, .slice none 0 0, .slice none 0 0] 66 (0, 0))) := hkN.blk HB7.out (show ¬ b7 = cb by omega)
              refine hK.out _ _ HF2.out.s (fun hS => ?_)
              clear hK K HF1 hcN hkN hlg hwo
              simp only [List.set_cons_zero, List.set_cons_succ]
              refine wpAnyZ_ready (rs := [5, 11]) (by kernel_rfl) (by simp) ?_
              refine AllReadyZ.consL rfl (fun K hK => ?_) ?_
              · go_simp
                go_at_call 80
                refine Calls.mono (dop_next x a1 a2 a3 ag c1 c2 c3 cg (i : Int) y u2 hx3 HF2.out.own.sa.at HF2.out.own.ld.at HF2.out.own.bk.at HF2.out.cap (own_ints HLG.out) (own_ok HLG.out) (by omega) (by omega)) ?_
                rintro e u3 ⟨⟨b1, b2, b3, b4, m1, m2, m3, m4, d1, d2, d3, d4, k1, k2, k3, tb, rfl, hnx⟩, hbN⟩
                dsimp only
                have HF3 : Hid (FSit w u3 cb ao n c (90000000000000 + 4 + 302 * i + 300) ob x a1 a2 a3 c1 c2 c3 L C A B D E) := HF2.out.below hbN
                have HNX : Hid (NextOff w.heap.size x.san b1 b2 b3 m1 m2 m3 d1 d2 d3 tb u3) := hnx.out.lower HF2.out.kept.size
                replace HB7 : Hid (u3.heap[b7]? = some (.cells #[.slice none 0 0, .slice none 0 0, .slice none 0 0] 66 (0, 0))) := blk_below HB7.out hbN
                refine hK.out _ _ HF3.out.s (fun hS => ?_)
                clear hK K HF2 hbN hnx HLG
                simp only [List.set_cons_zero, List.set_cons_succ]
                (refine wpAnyZ_takeN (i := 6) (v := ?_) rfl (by kernel_rfl) (fun _ _ _ h => h) (Or.inl ⟨by rfl, ?_⟩) (by assumption) ?_; rotate_left; (focus (intro w' hSw; (try dsimp only at hSw); go_simp; try with_reducible rfl)); simp only [Act.put, List.setIfInBounds_toArray, List.set_cons_zero, List.set_cons_succ])
                (refine wpAnyZ_takeN (i := 7) (v := ?_) rfl (by kernel_rfl) (fun _ _ _ h => h) (Or.inl ⟨by rfl, ?_⟩) (by assumption) ?_; rotate_left; (focus (intro w' hSw; (try dsimp only at hSw); go_simp; try with_reducible rfl)); simp only [Act.put, List.setIfInBounds_toArray, List.set_cons_zero, List.set_cons_succ])
                (refine wpAnyZ_takeN (i := 8) (v := ?_) rfl (by kernel_rfl) (fun _ _ _ h => h) (Or.inl ⟨by rfl, ?_⟩) (by assumption) ?_; rotate_left; (focus (intro w' hSw; (try dsimp only at hSw); go_simp; try with_reducible rfl)); simp only [Act.put, List.setIfInBounds_toArray, List.set_cons_zero, List.set_cons_succ])
                (refine wpAnyZ_takeN (i := 9) (v := ?_) rfl (by kernel_rfl) (fun _ _ _ h => h) (Or.inl ⟨by rfl, ?_⟩) (by assumption) ?_; rotate_left; (focus (intro w' hSw; (try dsimp only at hSw); go_simp; try with_reducible rfl)); simp only [Act.put, List.setIfInBounds_toArray, List.set_cons_zero, List.set_cons_succ])
                refine wpAnyZ_ready (rs := [11]) (by kernel_rfl) (by simp) ?_
                refine AllReadyZ.consL rfl (fun K hK => ?_) ?_
                · go_simp
                  have HF4 : Hid (FSit w (u3.alloc (.cells #[.int .i64 0, .int .i64 0, .int .i64 0, .slice none 0 0] 127)) cb ao n c (90000000000000 + 4 + 302 * i + 300) ob x a1 a2 a3 c1 c2 c3 L C A B D E) := HF3.out.below (push (Below.refl _ _) _)
                  have HB8 : Hid ((u3.alloc (.cells #[.int .i64 0, .int .i64 0, .int .i64 0, .slice none 0 0] 127)).heap[u3.heap.size]? = some (.cells #[.int .i64 0, .int .i64 0, .int .i64 0, .slice none 0 0] 127 (0, 0))) := heap_alloc_new u3 _
                  have lb8 : ob < u3.heap.size := HF3.out.ob_lt
                  replace HB7 : Hid ((u3.alloc (.cells #[.int .i64 0, .int .i64 0, .int .i64 0, .slice none 0 0] 127)).heap[b7]? = some (.cells #[.slice none 0 0, .slice none 0 0, .slice none 0 0] 66 (0, 0))) := blk_alloc HB7.out _
                  replace HNX : Hid (NextOff w.heap.size x.san b1 b2 b3 m1 m2 m3 d1 d2 d3 tb (u3.alloc (.cells #[.int .i64 0, .int .i64 0, .int .i64 0, .slice none 0 0] 127))) := HNX.out.below (push (Below.refl _ _) _)
                  refine hK.out _ _ HF4.out.s (fun hS => ?_)
                  clear hK K HF3
                  simp only [List.set_cons_zero, List.set_cons_succ]
                  generalize (u3.alloc (.cells #[.int .i64 0, .int .i64 0, .int .i64 0, .slice none 0 0] 127)) = u4 at HF4 HB8 HB7 HNX hS ⊢
                  generalize u3.heap.size = b8 at HB8 lb8 ⊢
                  have hne : b7 ≠ b8 := fun e => by have h7 := HB7.out; rw [e, HB8.out] at h7; simp at h7
                  have q0 := blk_cell HB7.out 0 _ rfl
                  have qf0 := blk_free HB7.out 0
                  have q1 := blk_cell HB7.out 1 _ rfl
                  have qf1 := blk_free HB7.out 1
                  have q2 := blk_cell HB7.out 2 _ rfl
                  have qf2 := blk_free HB7.out 2
                  have hk7 : Kept u4 (((u4.setCell ⟨b7, 0, none⟩ (.slice b1 m1 d1)).setCell ⟨b7, 1, none⟩ (.slice b2 m2 d2)).setCell ⟨b7, 2, none⟩ (.slice b3 m3 d3)) (fun b => b = b7) := ((((Kept.refl u4 (fun b => b = b7)).set (a := ⟨b7, 0, none⟩) rfl (.slice b1 m1 d1)).set (a := ⟨b7, 1, none⟩) rfl (.slice b2 m2 d2)).set (a := ⟨b7, 2, none⟩) rfl (.slice b3 m3 d3))
                  have HG : Hid (FSit w (((u4.setCell ⟨b7, 0, none⟩ (.slice b1 m1 d1)).setCell ⟨b7, 1, none⟩ (.slice b2 m2 d2)).setCell ⟨b7, 2, none⟩ (.slice b3 m3 d3)) cb ao n c (90000000000000 + 4 + 302 * i + 300) ob x a1 a2 a3 c1 c2 c3 L C A B D E) := HF4.out.other hcb HL.out hk7 HB7.out (by decide) lb7
                  have HNX7 : Hid (NextOff w.heap.size x.san b1 b2 b3 m1 m2 m3 d1 d2 d3 tb (((u4.setCell ⟨b7, 0, none⟩ (.slice b1 m1 d1)).setCell ⟨b7, 1, none⟩ (.slice b2 m2 d2)).setCell ⟨b7, 2, none⟩ (.slice b3 m3 d3))) := HNX.out.box hk7 HB7.out (by decide)
                  have HC7 : Hid ((((u4.setCell ⟨b7, 0, none⟩ (.slice b1 m1 d1)).setCell ⟨b7, 1, none⟩ (.slice b2 m2 d2)).setCell ⟨b7, 2, none⟩ (.slice b3 m3 d3)).heap[b7]? = some (.cells #[.slice b1 m1 d1, .slice b2 m2 d2, .slice b3 m3 d3] 66 (0, 0))) := off3_n HB7.out _ _ _
                  have HD8 : Hid ((((u4.setCell ⟨b7, 0, none⟩ (.slice b1 m1 d1)).setCell ⟨b7, 1, none⟩ (.slice b2 m2 d2)).setCell ⟨b7, 2, none⟩ (.slice b3 m3 d3)).heap[b8]? = some (.cells #[.int .i64 0, .int .i64 0, .int .i64 0, .slice none 0 0] 127 (0, 0))) := hk7.blk HB8.out (show ¬ b8 = b7 from fun e => hne e.symm)
                  refine wpAnyZ_ready (rs := [12]) (by kernel_rfl) (by simp) ?_
                  refine AllReadyZ.consL rfl (fun K hK => ?_) AllReadyZ.nil
                  go_simp
                  refine hK.out _ _ HG.out.s (fun hS => ?_)
                  clear hK K HF4 hk7 HNX HB7 HB8 q0 q1 q2 qf0 qf1 qf2
                  simp only [List.set_cons_zero, List.set_cons_succ]
                  generalize (((u4.setCell ⟨b7, 0, none⟩ (.slice b1 m1 d1)).setCell ⟨b7, 1, none⟩ (.slice b2 m2 d2)).setCell ⟨b7, 2, none⟩ (.slice b3 m3 d3)) = v7 at HG HNX7 HC7 HD8 hS ⊢
                  have q0 := blk_cell HD8.out 0 _ rfl
                  have qf0 := blk_free HD8.out 0
                  have q1 := blk_cell HD8.out 1 _ rfl
                  have qf1 := blk_free HD8.out 1
                  have q2 := blk_cell HD8.out 2 _ rfl
                  have qf2 := blk_free HD8.out 2
                  have q3 := blk_cell HD8.out 3 _ rfl
                  have qf3 := blk_free HD8.out 3
                  have hk8 : Kept v7 ((((v7.setCell ⟨b8, 0, none⟩ (.int .i64 k1)).setCell ⟨b8, 1, none⟩ (.int .i64 k2)).setCell ⟨b8, 2, none⟩ (.int .i64 k3)).setCell ⟨b8, 3, none⟩ (.slice b4 m4 d4)) (fun b => b = b8) := (((((Kept.refl v7 (fun b => b = b8)).set (a := ⟨b8, 0, none⟩) rfl (.int .i64 k1)).set (a := ⟨b8, 1, none⟩) rfl (.int .i64 k2)).set (a := ⟨b8, 2, none⟩) rfl (.int .i64 k3)).set (a := ⟨b8, 3, none⟩) rfl (.slice b4 m4 d4))
                  have HH : Hid (FSit w ((((v7.setCell ⟨b8, 0, none⟩ (.int .i64 k1)).setCell ⟨b8, 1, none⟩ (.int .i64 k2)).setCell ⟨b8, 2, none⟩ (.int .i64 k3)).setCell ⟨b8, 3, none⟩ (.slice b4 m4 d4)) cb ao n c (90000000000000 + 4 + 302 * i + 300) ob x a1 a2 a3 c1 c2 c3 L C A B D E) := HG.out.other hcb HL.out hk8 HD8.out (by decide) lb8
                  have HNX8 : Hid (NextOff w.heap.size x.san b1 b2 b3 m1 m2 m3 d1 d2 d3 tb ((((v7.setCell ⟨b8, 0, none⟩ (.int .i64 k1)).setCell ⟨b8, 1, none⟩ (.int .i64 k2)).setCell ⟨b8, 2, none⟩ (.int .i64 k3)).setCell ⟨b8, 3, none⟩ (.slice b4 m4 d4))) := HNX7.out.box hk8 HD8.out (by decide)
                  have HC8 : Hid (((((v7.setCell ⟨b8, 0, none⟩ (.int .i64 k1)).setCell ⟨b8, 1, none⟩ (.int .i64 k2)).setCell ⟨b8, 2, none⟩ (.int .i64 k3)).setCell ⟨b8, 3, none⟩ (.slice b4 m4 d4)).heap[b7]? = some (.cells #[.slice b1 m1 d1, .slice b2 m2 d2, .slice b3 m3 d3] 66 (0, 0))) := hk8.blk HC7.out hne
                  refine wpAnyZ_ready (rs := [13]) (by kernel_rfl) (by simp) ?_
                  refine AllReadyZ.consL rfl (fun K hK => ?_) AllReadyZ.nil
                  go_simp
                  refine hK.out _ _ HH.out.s (fun hS => ?_)
                  clear hK K HG hk8 HNX7 HC7 HD8 q0 q1 q2 q3 qf0 qf1 qf2 qf3
                  simp only [List.set_cons_zero, List.set_cons_succ]
                  generalize ((((v7.setCell ⟨b8, 0, none⟩ (.int .i64 k1)).setCell ⟨b8, 1, none⟩ (.int .i64 k2)).setCell ⟨b8, 2, none⟩ (.int .i64 k3)).setCell ⟨b8, 3, none⟩ (.slice b4 m4 d4)) = v8 at HH HNX8 HC8 hS ⊢
                  refine wpAnyZ_ready (rs := [14]) (by kernel_rfl) (by simp) ?_
                  refine AllReadyZ.consL rfl (fun K hK => ?_) AllReadyZ.nil
                  go_simp
                  refine hK.out _ _ HH.out.s (fun hS => ?_)
                  clear hK K
                  simp only [List.set_cons_zero, List.set_cons_succ]
                  refine wpAnyZ_done (by kernel_rfl) ?_ _
                  go_wp2
                  go_meet
                  exact ⟨b7, tb, b1, b2, b3, m1, m2, m3, d1, d2, d3, rfl, rfl, lb7, HC8, HNX8, HH⟩
                exact AllReadyZ.nil
              refine AllReadyZ.consL rfl (fun K hK => ?_) ?_
              · go_simp
                have HF3 : Hid (FSit w (u2.alloc (.cells #[.int .i64 0, .int .i64 0, .int .i64 0, .slice none 0 0] 127)) cb ao n c (90000000000000 + 4 + 302 * i + 300) ob x a1 a2 a3 c1 c2 c3 L C A B D E) := HF2.out.below (push (Below.refl _ _) _)
                have HB8 : Hid ((u2.alloc (.cells #[.int .i64 0, .int .i64 0, .int .i64 0, .slice none 0 0] 127)).heap[u2.heap.size]? = some (.cells #[.int .i64 0, .int .i64 0, .int .i64 0, .slice none 0 0] 127 (0, 0))) := heap_alloc_new u2 _
                have lb8 : ob < u2.heap.size := HF2.out.ob_lt
                replace HB7 : Hid ((u2.alloc (.cells #[.int .i64 0, .int .i64 0, .int .i64 0, .slice none 0 0] 127)).heap[b7]? = some (.cells #[.slice none 0 0, .slice none 0 0, .slice none 0 0] 66 (0, 0))) := blk_alloc HB7.out _
                replace HLG : Hid ((u2.alloc (.cells #[.int .i64 0, .int .i64 0, .int .i64 0, .slice none 0 0] 127)).ownsRow w.heap.size 3 1 (.slice ag y.lgn cg) y.lgn (intList y.lg y.lgn)) := own_below (push (Below.refl _ _) _) HLG.out
                refine hK.out _ _ HF3.out.s (fun hS => ?_)
                clear hK K HF2
                simp only [List.set_cons_zero, List.set_cons_succ]
                generalize (u2.alloc (.cells #[.int .i64 0, .int .i64 0, .int .i64 0, .slice none 0 0] 127)) = u3 at HF3 HB8 HB7 HLG hS ⊢
                generalize u2.heap.size = b8 at HB8 lb8 ⊢
                refine wpAnyZ_ready (rs := [5]) (by kernel_rfl) (by simp) ?_
                refine AllReadyZ.consL rfl (fun K hK => ?_) ?_
                · go_simp
                  go_at_call 80
                  refine Calls.mono (dop_next x a1 a2 a3 ag c1 c2 c3 cg (i : Int) y u3 hx3 HF3.out.own.sa.at HF3.out.own.ld.at HF3.out.own.bk.at HF3.out.cap (own_ints HLG.out) (own_ok HLG.out) (by omega) (by omega)) ?_
                  rintro e u4 ⟨⟨b1, b2, b3, b4, m1, m2, m3, m4, d1, d2, d3, d4, k1, k2, k3, tb, rfl, hnx⟩, hbN⟩
                  dsimp only
                  have HF4 : Hid (FSit w u4 cb ao n c (90000000000000 + 4 + 302 * i + 300) ob x a1 a2 a3 c1 c2 c3 L C A B D E) := HF3.out.below hbN
                  have HNX : Hid (NextOff w.heap.size x.san b1 b2 b3 m1 m2 m3 d1 d2 d3 tb u4) := hnx.out.lower HF3.out.kept.size
                  replace HB7 : Hid (u4.heap[b7]? = some (.cells #[.slice none 0 0, .slice none 0 0, .slice none 0 0] 66 (0, 0))) := blk_below HB7.out hbN
                  replace HB8 : Hid (u4.heap[b8]? = some (.cells #[.int .i64 0, .int .i64 0, .int .i64 0, .slice none 0 0] 127 (0, 0))) := blk_below HB8.out hbN
                  refine hK.out _ _ HF4.out.s (fun hS => ?_)
                  clear hK K HF3 hbN hnx HLG
                  simp only [List.set_cons_zero, List.set_cons_succ]
                  (refine wpAnyZ_takeN (i := 6) (v := ?_) rfl (by kernel_rfl) (fun _ _ _ h => h) (Or.inl ⟨by rfl, ?_⟩) (by assumption) ?_; rotate_left; (focus (intro w' hSw; (try dsimp only at hSw); go_simp; try with_reducible rfl)); simp only [Act.put, List.setIfInBounds_toArray, List.set_cons_zero, List.set_cons_succ])
                  (refine wpAnyZ_takeN (i := 7) (v := ?_) rfl (by kernel_rfl) (fun _ _ _ h => h) (Or.inl ⟨by rfl, ?_⟩) (by assumption) ?_; rotate_left; (focus (intro w' hSw; (try dsimp only at hSw); go_simp; try with_reducible rfl)); simp only [Act.put, List.setIfInBounds_toArray, List.set_cons_zero, List.set_cons_succ])
                  (refine wpAnyZ_takeN (i := 8) (v := ?_) rfl (by kernel_rfl) (fun _ _ _ h => h) (Or.inl ⟨by rfl, ?_⟩) (by assumption) ?_; rotate_left; (focus (intro w' hSw; (try dsimp only at hSw); go_simp; try with_reducible rfl)); simp only [Act.put, List.setIfInBounds_toArray, List.set_cons_zero, List.set_cons_succ])
                  (refine wpAnyZ_takeN (i := 9) (v := ?_) rfl (by kernel_rfl) (fun _ _ _ h => h) (Or.inl ⟨by rfl, ?_⟩) (by assumption) ?_; rotate_left; (focus (intro w' hSw; (try dsimp only at hSw); go_simp; try with_reducible rfl)); simp only [Act.put, List.setIfInBounds_toArray, List.set_cons_zero, List.set_cons_succ])
                  have hne : b7 ≠ b8 := fun e => by have h7 := HB7.out; rw [e, HB8.out] at h7; simp at h7
                  have q0 := blk_cell HB7.out 0 _ rfl
                  have qf0 := blk_free HB7.out 0
                  have q1 := blk_cell HB7.out 1 _ rfl
                  have qf1 := blk_free HB7.out 1
                  have q2 := blk_cell HB7.out 2 _ rfl
                  have qf2 := blk_free HB7.out 2
                  have hk7 : Kept u4 (((u4.setCell ⟨b7, 0, none⟩ (.slice b1 m1 d1)).setCell ⟨b7, 1, none⟩ (.slice b2 m2 d2)).setCell ⟨b7, 2, none⟩ (.slice b3 m3 d3)) (fun b => b = b7) := ((((Kept.refl u4 (fun b => b = b7)).set (a := ⟨b7, 0, none⟩) rfl (.slice b1 m1 d1)).set (a := ⟨b7, 1, none⟩) rfl (.slice b2 m2 d2)).set (a := ⟨b7, 2, none⟩) rfl (.slice b3 m3 d3))
                  have HG : Hid (FSit w (((u4.setCell ⟨b7, 0, none⟩ (.slice b1 m1 d1)).setCell ⟨b7, 1, none⟩ (.slice b2 m2 d2)).setCell ⟨b7, 2, none⟩ (.slice b3 m3 d3)) cb ao n c (90000000000000 + 4 + 302 * i + 300) ob x a1 a2 a3 c1 c2 c3 L C A B D E) := HF4.out.other hcb HL.out hk7 HB7.out (by decide) lb7
                  have HNX7 : Hid (NextOff w.heap.size x.san b1 b2 b3 m1 m2 m3 d1 d2 d3 tb (((u4.setCell ⟨b7, 0, none⟩ (.slice b1 m1 d1)).setCell ⟨b7, 1, none⟩ (.slice b2 m2 d2)).setCell ⟨b7, 2, none⟩ (.slice b3 m3 d3))) := HNX.out.box hk7 HB7.out (by decide)
                  have HC7 : Hid ((((u4.setCell ⟨b7, 0, none⟩ (.slice b1 m1 d1)).setCell ⟨b7, 1, none⟩ (.slice b2 m2 d2)).setCell ⟨b7, 2, none⟩ (.slice b3 m3 d3)).heap[b7]? = some (.cells #[.slice b1 m1 d1, .slice b2 m2 d2, .slice b3 m3 d3] 66 (0, 0))) := off3_n HB7.out _ _ _
                  have HD8 : Hid ((((u4.setCell ⟨b7, 0, none⟩ (.slice b1 m1 d1)).setCell ⟨b7, 1, none⟩ (.slice b2 m2 d2)).setCell ⟨b7, 2, none⟩ (.slice b3 m3 d3)).heap[b8]? = some (.cells #[.int .i64 0, .int .i64 0, .int .i64 0, .slice none 0 0] 127 (0, 0))) := hk7.blk HB8.out (show ¬ b8 = b7 from fun e => hne e.symm)
                  refine wpAnyZ_ready (rs := [12]) (by kernel_rfl) (by simp) ?_
                  refine AllReadyZ.consL rfl (fun K hK => ?_) AllReadyZ.nil
                  go_simp
                  refine hK.out _ _ HG.out.s (fun hS => ?_)
                  clear hK K HF4 hk7 HNX HB7 HB8 q0 q1 q2 qf0 qf1 qf2
                  simp only [List.set_cons_zero, List.set_cons_succ]
                  generalize (((u4.setCell ⟨b7, 0, none⟩ (.slice b1 m1 d1)).setCell ⟨b7, 1, none⟩ (.slice b2 m2 d2)).setCell ⟨b7, 2, none⟩ (.slice b3 m3 d3)) = v7 at HG HNX7 HC7 HD8 hS ⊢
                  have q0 := blk_cell HD8.out 0 _ rfl
                  have qf0 := blk_free HD8.out 0
                  have q1 := blk_cell HD8.out 1 _ rfl
                  have qf1 := blk_free HD8.out 1
                  have q2 := blk_cell HD8.out 2 _ rfl
                  have qf2 := blk_free HD8.out 2
                  have q3 := blk_cell HD8.out 3 _ rfl
                  have qf3 := blk_free HD8.out 3
                  have hk8 : Kept v7 ((((v7.setCell ⟨b8, 0, none⟩ (.int .i64 k1)).setCell ⟨b8, 1, none⟩ (.int .i64 k2)).setCell ⟨b8, 2, none⟩ (.int .i64 k3)).setCell ⟨b8, 3, none⟩ (.slice b4 m4 d4)) (fun b => b = b8) := (((((Kept.refl v7 (fun b => b = b8)).set (a := ⟨b8, 0, none⟩) rfl (.int .i64 k1)).set (a := ⟨b8, 1, none⟩) rfl (.int .i64 k2)).set (a := ⟨b8, 2, none⟩) rfl (.int .i64 k3)).set (a := ⟨b8, 3, none⟩) rfl (.slice b4 m4 d4))
                  have HH : Hid (FSit w ((((v7.setCell ⟨b8, 0, none⟩ (.int .i64 k1)).setCell ⟨b8, 1, none⟩ (.int .i64 k2)).setCell ⟨b8, 2, none⟩ (.int .i64 k3)).setCell ⟨b8, 3, none⟩ (.slice b4 m4 d4)) cb ao n c (90000000000000 + 4 + 302 * i + 300) ob x a1 a2 a3 c1 c2 c3 L C A B D E) := HG.out.other hcb HL.out hk8 HD8.out (by decide) lb8
                  have HNX8 : Hid (NextOff w.heap.size x.san b1 b2 b3 m1 m2 m3 d1 d2 d3 tb ((((v7.setCell ⟨b8, 0, none⟩ (.int .i64 k1)).setCell ⟨b8, 1, none⟩ (.int .i64 k2)).setCell ⟨b8, 2, none⟩ (.int .i64 k3)).setCell ⟨b8, 3, none⟩ (.slice b4 m4 d4))) := HNX7.out.box hk8 HD8.out (by decide)
                  have HC8 : Hid (((((v7.setCell ⟨b8, 0, none⟩ (.int .i64 k1)).setCell ⟨b8, 1, none⟩ (.int .i64 k2)).setCell ⟨b8, 2, none⟩ (.int .i64 k3)).setCell ⟨b8, 3, none⟩ (.slice b4 m4 d4)).heap[b7]? = some (.cells #[.slice b1 m1 d1, .slice b2 m2 d2, .slice b3 m3 d3] 66 (0, 0))) := hk8.blk HC7.out hne
                  refine wpAnyZ_ready (rs := [13]) (by kernel_rfl) (by simp) ?_
                  refine AllReadyZ.consL rfl (fun K hK => ?_) AllReadyZ.nil
                  go_simp
                  refine hK.out _ _ HH.out.s (fun hS => ?_)
                  clear hK K HG hk8 HNX7 HC7 HD8 q0 q1 q2 q3 qf0 qf1 qf2 qf3
                  simp only [List.set_cons_zero, List.set_cons_succ]
                  generalize ((((v7.setCell ⟨b8, 0, none⟩ (.int .i64 k1)).setCell ⟨b8, 1, none⟩ (.int .i64 k2)).setCell ⟨b8, 2, none⟩ (.int .i64 k3)).setCell ⟨b8, 3, none⟩ (.slice b4 m4 d4)) = v8 at HH HNX8 HC8 hS ⊢
                  refine wpAnyZ_ready (rs := [14]) (by kernel_rfl) (by simp) ?_
                  refine AllReadyZ.consL rfl (fun K hK => ?_) AllReadyZ.nil
                  go_simp
                  refine hK.out _ _ HH.out.s (fun hS => ?_)
                  clear hK K
                  simp only [List.set_cons_zero, List.set_cons_succ]
                  refine wpAnyZ_done (by kernel_rfl) ?_ _
                  go_wp2
                  go_meet
                  exact ⟨b7, tb, b1, b2, b3, m1, m2, m3, d1, d2, d3, rfl, rfl, lb7, HC8, HNX8, HH⟩
                exact AllReadyZ.nil
              exact AllReadyZ.nil
            refine AllReadyZ.consL rfl (fun K hK => ?_) ?_
            · go_simp
              have HF2 : Hid (FSit w (u1.alloc (.cells #[.int .i64 0, .int .i64 0, .int .i64 0, .slice none 0 0] 127)) cb ao n c (90000000000000 + 4 + 302 * i) ob x a1 a2 a3 c1 c2 c3 L C A B D E) := HF1.out.below (push (Below.refl _ _) _)
              have HB8 : Hid ((u1.alloc (.cells #[.int .i64 0, .int .i64 0, .int .i64 0, .slice none 0 0] 127)).heap[u1.heap.size]? = some (.cells #[.int .i64 0, .int .i64 0, .int .i64 0, .slice none 0 0] 127 (0, 0))) := heap_alloc_new u1 _
              have lb8 : ob < u1.heap.size := HF1.out.ob_lt
              replace HB7 : Hid ((u1.alloc (.cells #[.int .i64 0, .int .i64 0, .int .i64 0, .slice none 0 0] 127)).heap[b7]? = some (.cells #[.slice none 0 0, .slice none 0 0, .slice none 0 0] 66 (0, 0))) := blk_alloc HB7.out _
              refine hK.out _ _ HF2.out.s (fun hS => ?_)
              clear hK K HF1
              simp only [List.set_cons_zero, List.set_cons_succ]
              generalize (u1.alloc (.cells #[.int .i64 0, .int .i64 0, .int .i64 0, .slice none 0 0] 127)) = u2 at HF2 HB8 HB7 hS ⊢
              generalize u1.heap.size = b8 at HB8 lb8 ⊢
              refine wpAnyZ_ready (rs := [4]) (by kernel_rfl) (by simp) ?_
              refine AllReadyZ.consL rfl (fun K hK => ?_) ?_
              · go_simp
                go_at_call 29
                refine Calls.mono (op_any cb ao n c (90000000000000 + 4 + 302 * i) a1 a2 a3 x.san c1 x.ldn c2 x.bkn c3 x.sa u2 (by omega) (by omega) (by omega) HF2.out.cur HF2.out.sails) ?_
                rintro e u3 ⟨⟨y, ag, cg, rfl, hy1, hy2, hlg⟩, hcN, hkN⟩
                dsimp only
                have HF3 : Hid (FSit w u3 cb ao n c (90000000000000 + 4 + 302 * i + 300) ob x a1 a2 a3 c1 c2 c3 L C A B D E) := HF2.out.on hcb hcN hkN
                have HLG : Hid (u3.ownsRow w.heap.size 3 1 (.slice ag y.lgn cg) y.lgn (intList y.lg y.lgn)) := own_base hlg HF2.out.kept.size
                have hwo := HF2.out.lt
                replace HB7 : Hid (u3.heap[b7]? = some (.cells #[.slice none 0 0, .slice none 0 0, .slice none 0 0] 66 (0, 0))) := hkN.blk HB7.out (show ¬ b7 = cb by omega)
                replace HB8 : Hid (u3.heap[b8]? = some (.cells #[.int .i64 0, .int .i64 0, .int .i64 0, .slice none 0 0] 127 (0, 0))) := hkN.blk HB8.out (show ¬ b8 = cb by omega)
                refine hK.out _ _ HF3.out.s (fun hS => ?_)
                clear hK K HF2 hcN hkN hlg hwo
                simp only [List.set_cons_zero, List.set_cons_succ]
                refine wpAnyZ_ready (rs := [5]) (by kernel_rfl) (by simp) ?_
                refine AllReadyZ.consL rfl (fun K hK => ?_) ?_
                · go_simp
                  go_at_call 80
                  refine Calls.mono (dop_next x a1 a2 a3 ag c1 c2 c3 cg (i : Int) y u3 hx3 HF3.out.own.sa.at HF3.out.own.ld.at HF3.out.own.bk.at HF3.out.cap (own_ints HLG.out) (own_ok HLG.out) (by omega) (by omega)) ?_
                  rintro e u4 ⟨⟨b1, b2, b3, b4, m1, m2, m3, m4, d1, d2, d3, d4, k1, k2, k3, tb, rfl, hnx⟩, hbN⟩
                  dsimp only
                  have HF4 : Hid (FSit w u4 cb ao n c (90000000000000 + 4 + 302 * i + 300) ob x a1 a2 a3 c1 c2 c3 L C A B D E) := HF3.out.below hbN
                  have HNX : Hid (NextOff w.heap.size x.san b1 b2 b3 m1 m2 m3 d1 d2 d3 tb u4) := hnx.out.lower HF3.out.kept.size
                  replace HB7 : Hid (u4.heap[b7]? = some (.cells #[.slice none 0 0, .slice none 0 0, .slice none 0 0] 66 (0, 0))) := blk_below HB7.out hbN
                  replace HB8 : Hid (u4.heap[b8]? = some (.cells #[.int .i64 0, .int .i64 0, .int .i64 0, .slice none 0 0] 127 (0, 0))) := blk_below HB8.out hbN
                  refine hK.out _ _ HF4.out.s (fun hS => ?_)
                  clear hK K HF3 hbN hnx HLG
                  simp only [List.set_cons_zero, List.set_cons_succ]
                  (refine wpAnyZ_takeN (i := 6) (v := ?_) rfl (by kernel_rfl) (fun _ _ _ h => h) (Or.inl ⟨by rfl, ?_⟩) (by assumption) ?_; rotate_left; (focus (intro w' hSw; (try dsimp only at hSw); go_simp; try with_reducible rfl)); simp only [Act.put, List.setIfInBounds_toArray, List.set_cons_zero, List.set_cons_succ])
                  (refine wpAnyZ_takeN (i := 7) (v := ?_) rfl (by kernel_rfl) (fun _ _ _ h => h) (Or.inl ⟨by rfl, ?_⟩) (by assumption) ?_; rotate_left; (focus (intro w' hSw; (try dsimp only at hSw); go_simp; try with_reducible rfl)); simp only [Act.put, List.setIfInBounds_toArray, List.set_cons_zero, List.set_cons_succ])
                  (refine wpAnyZ_takeN (i := 8) (v := ?_) rfl (by kernel_rfl) (fun _ _ _ h => h) (Or.inl ⟨by rfl, ?_⟩) (by assumption) ?_; rotate_left; (focus (intro w' hSw; (try dsimp only at hSw); go_simp; try with_reducible rfl)); simp only [Act.put, List.setIfInBounds_toArray, List.set_cons_zero, List.set_cons_succ])
                  (refine wpAnyZ_takeN (i := 9) (v := ?_) rfl (by kernel_rfl) (fun _ _ _ h => h) (Or.inl ⟨by rfl, ?_⟩) (by assumption) ?_; rotate_left; (focus (intro w' hSw; (try dsimp only at hSw); go_simp; try with_reducible rfl)); simp only [Act.put, List.setIfInBounds_toArray, List.set_cons_zero, List.set_cons_succ])
                  have hne : b7 ≠ b8 := fun e => by have h7 := HB7.out; rw [e, HB8.out] at h7; simp at h7
                  have q0 := blk_cell HB7.out 0 _ rfl
                  have qf0 := blk_free HB7.out 0
                  have q1 := blk_cell HB7.out 1 _ rfl
                  have qf1 := blk_free HB7.out 1
                  have q2 := blk_cell HB7.out 2 _ rfl
                  have qf2 := blk_free HB7.out 2
                  have hk7 : Kept u4 (((u4.setCell ⟨b7, 0, none⟩ (.slice b1 m1 d1)).setCell ⟨b7, 1, none⟩ (.slice b2 m2 d2)).setCell ⟨b7, 2, none⟩ (.slice b3 m3 d3)) (fun b => b = b7) := ((((Kept.refl u4 (fun b => b = b7)).set (a := ⟨b7, 0, none⟩) rfl (.slice b1 m1 d1)).set (a := ⟨b7, 1, none⟩) rfl (.slice b2 m2 d2)).set (a := ⟨b7, 2, none⟩) rfl (.slice b3 m3 d3))
                  have HG : Hid (FSit w (((u4.setCell ⟨b7, 0, none⟩ (.slice b1 m1 d1)).setCell ⟨b7, 1, none⟩ (.slice b2 m2 d2)).setCell ⟨b7, 2, none⟩ (.slice b3 m3 d3)) cb ao n c (90000000000000 + 4 + 302 * i + 300) ob x a1 a2 a3 c1 c2 c3 L C A B D E) := HF4.out.other hcb HL.out hk7 HB7.out (by decide) lb7
                  have HNX7 : Hid (NextOff w.heap.size x.san b1 b2 b3 m1 m2 m3 d1 d2 d3 tb (((u4.setCell ⟨b7, 0, none⟩ (.slice b1 m1 d1)).setCell ⟨b7, 1, none⟩ (.slice b2 m2 d2)).setCell ⟨b7, 2, none⟩ (.slice b3 m3 d3))) := HNX.out.box hk7 HB7.out (by decide)
                  have HC7 : Hid ((((u4.setCell ⟨b7, 0, none⟩ (.slice b1 m1 d1)).setCell ⟨b7, 1, none⟩ (.slice b2 m2 d2)).setCell ⟨b7, 2, none⟩ (.slice b3 m3 d3)).heap[b7]? = some (.cells #[.slice b1 m1 d1, .slice b2 m2 d2, .slice b3 m3 d3] 66 (0, 0))) := off3_n HB7.out _ _ _
                  have HD8 : Hid ((((u4.setCell ⟨b7, 0, none⟩ (.slice b1 m1 d1)).setCell ⟨b7, 1, none⟩ (.slice b2 m2 d2)).setCell ⟨b7, 2, none⟩ (.slice b3 m3 d3)).heap[b8]? = some (.cells #[.int .i64 0, .int .i64 0, .int .i64 0, .slice none 0 0] 127 (0, 0))) := hk7.blk HB8.out (show ¬ b8 = b7 from fun e => hne e.symm)
                  refine wpAnyZ_ready (rs := [12]) (by kernel_rfl) (by simp) ?_
                  refine AllReadyZ.consL rfl (fun K hK => ?_) AllReadyZ.nil
                  go_simp
                  refine hK.out _ _ HG.out.s (fun hS => ?_)
                  clear hK K HF4 hk7 HNX HB7 HB8 q0 q1 q2 qf0 qf1 qf2
                  simp only [List.set_cons_zero, List.set_cons_succ]
                  generalize (((u4.setCell ⟨b7, 0, none⟩ (.slice b1 m1 d1)).setCell ⟨b7, 1, none⟩ (.slice b2 m2 d2)).setCell ⟨b7, 2, none⟩ (.slice b3 m3 d3)) = v7 at HG HNX7 HC7 HD8 hS ⊢
                  have q0 := blk_cell HD8.out 0 _ rfl
                  have qf0 := blk_free HD8.out 0
                  have q1 := blk_cell HD8.out 1 _ rfl
                  have qf1 := blk_free HD8.out 1
                  have q2 := blk_cell HD8.out 2 _ rfl
                  have qf2 := blk_free HD8.out 2
                  have q3 := blk_cell HD8.out 3 _ rfl
                  have qf3 := blk_free HD8.out 3
                  have hk8 : Kept v7 ((((v7.setCell ⟨b8, 0, none⟩ (.int .i64 k1)).setCell ⟨b8, 1, none⟩ (.int .i64 k2)).setCell ⟨b8, 2, none⟩ (.int .i64 k3)).setCell ⟨b8, 3, none⟩ (.slice b4 m4 d4)) (fun b => b = b8) := (((((Kept.refl v7 (fun b => b = b8)).set (a := ⟨b8, 0, none⟩) rfl (.int .i64 k1)).set (a := ⟨b8, 1, none⟩) rfl (.int .i64 k2)).set (a := ⟨b8, 2, none⟩) rfl (.int .i64 k3)).set (a := ⟨b8, 3, none⟩) rfl (.slice b4 m4 d4))
                  have HH : Hid (FSit w ((((v7.setCell ⟨b8, 0, none⟩ (.int .i64 k1)).setCell ⟨b8, 1, none⟩ (.int .i64 k2)).setCell ⟨b8, 2, none⟩ (.int .i64 k3)).setCell ⟨b8, 3, none⟩ (.slice b4 m4 d4)) cb ao n c (90000000000000 + 4 + 302 * i + 300) ob x a1 a2 a3 c1 c2 c3 L C A B D E) := HG.out.other hcb HL.out hk8 HD8.out (by decide) lb8
                  have HNX8 : Hid (NextOff w.heap.size x.san b1 b2 b3 m1 m2 m3 d1 d2 d3 tb ((((v7.setCell ⟨b8, 0, none⟩ (.int .i64 k1)).setCell ⟨b8, 1, none⟩ (.int .i64 k2)).setCell ⟨b8, 2, none⟩ (.int .i64 k3)).setCell ⟨b8, 3, none⟩ (.slice b4 m4 d4))) := HNX7.out.box hk8 HD8.out (by decide)
                  have HC8 : Hid (((((v7.setCell ⟨b8, 0, none⟩ (.int .i64 k1)).setCell ⟨b8, 1, none⟩ (.int .i64 k2)).setCell ⟨b8, 2, none⟩ (.int .i64 k3)).setCell ⟨b8, 3, none⟩ (.slice b4 m4 d4)).heap[b7]? = some (.cells #[.slice b1 m1 d1, .slice b2 m2 d2, .slice b3 m3 d3] 66 (0, 0))) := hk8.blk HC7.out hne
                  refine wpAnyZ_ready (rs := [13]) (by kernel_rfl) (by simp) ?_
                  refine AllReadyZ.consL rfl (fun K hK => ?_) AllReadyZ.nil
                  go_simp
                  refine hK.out _ _ HH.out.s (fun hS => ?_)
                  clear hK K HG hk8 HNX7 HC7 HD8 q0 q1 q2 q3 qf0 qf1 qf2 qf3
                  simp only [List.set_cons_zero, List.set_cons_succ]
                  generalize ((((v7.setCell ⟨b8, 0, none⟩ (.int .i64 k1)).setCell ⟨b8, 1, none⟩ (.int .i64 k2)).setCell ⟨b8, 2, none⟩ (.int .i64 k3)).setCell ⟨b8, 3, none⟩ (.slice b4 m4 d4)) = v8 at HH HNX8 HC8 hS ⊢
                  refine wpAnyZ_ready (rs := [14]) (by kernel_rfl) (by simp) ?_
                  refine AllReadyZ.consL rfl (fun K hK => ?_) AllReadyZ.nil
                  go_simp
                  refine hK.out _ _ HH.out.s (fun hS => ?_)
                  clear hK K
                  simp only [List.set_cons_zero, List.set_cons_succ]
                  refine wpAnyZ_done (by kernel_rfl) ?_ _
                  go_wp2
                  go_meet
                  exact ⟨b7, tb, b1, b2, b3, m1, m2, m3, d1, d2, d3, rfl, rfl, lb7, HC8, HNX8, HH⟩
                exact AllReadyZ.nil
              exact AllReadyZ.nil
            exact AllReadyZ.nil
          refine AllReadyZ.consL rfl (fun K hK => ?_) ?_
          · go_simp
            have HF1 : Hid (FSit w (u0.alloc (.cells #[.int .i64 0, .int .i64 0, .int .i64 0, .slice none 0 0] 127)) cb ao n c (90000000000000 + 4 + 302 * i) ob x a1 a2 a3 c1 c2 c3 L C A B D E) := HF0.out.below (push (Below.refl _ _) _)
            have HB8 : Hid ((u0.alloc (.cells #[.int .i64 0, .int .i64 0, .int .i64 0, .slice none 0 0] 127)).heap[u0.heap.size]? = some (.cells #[.int .i64 0, .int .i64 0, .int .i64 0, .slice none 0 0] 127 (0, 0))) := heap_alloc_new u0 _
            have lb8 : ob < u0.heap.size := HF0.out.ob_lt
            refine hK.out _ _ HF1.out.s (fun hS => ?_)
            clear hK K HF0
            simp only [List.set_cons_zero, List.set_cons_succ]
            generalize (u0.alloc (.cells #[.int .i64 0, .int .i64 0, .int .i64 0, .slice none 0 0] 127)) = u1 at HF1 HB8 hS ⊢
            generalize u0.heap.size = b8 at HB8 lb8 ⊢
            refine wpAnyZ_ready (rs := [4, 10]) (by kernel_rfl) (by simp) ?_
            refine AllReadyZ.consL rfl (fun K hK => ?_) ?_
            · go_simp
              go_at_call 29
              refine Calls.mono (op_any cb ao n c (90000000000000 + 4 + 302 * i) a1 a2 a3 x.san c1 x.ldn c2 x.bkn c3 x.sa u1 (by omega) (by omega) (by omega) HF1.out.cur HF1.out.sails) ?_
              rintro e u2 ⟨⟨y, ag, cg, rfl, hy1, hy2, hlg⟩, hcN, hkN⟩
              dsimp only
              have HF2 : Hid (FSit w u2 cb ao n c (90000000000000 + 4 + 302 * i + 300) ob x a1 a2 a3 c1 c2 c3 L C A B D E) := HF1.out.on hcb hcN hkN
              have HLG : Hid (u2.ownsRow w.heap.size 3 1 (.slice ag y.lgn cg) y.lgn (intList y.lg y.lgn)) := own_base hlg HF1.out.kept.size
              have hwo := HF1.out.lt
              replace HB8 : Hid (u2.heap[b8]? = some (.cells #[.int .i64 0, .int .i64 0, .int .i64 0, .slice none 0 0] 127 (0, 0))) := hkN.blk HB8.out (show ¬ b8 = cb by omega)
              refine hK.out _ _ HF2.out.s (fun hS => ?_)
              clear hK K HF1 hcN hkN hlg hwo
              simp only [List.set_cons_zero, List.set_cons_succ]
              refine wpAnyZ_ready (rs := [5, 10]) (by kernel_rfl) (by simp) ?_
              refine AllReadyZ.consL rfl (fun K hK => ?_) ?_
              · go_simp
                go_at_call 80
                refine Calls.mono (dop_next x a1 a2 a3 ag c1 c2 c3 cg (i : Int) y u2 hx3 HF2.out.own.sa.at HF2.out.own.ld.at HF2.out.own.bk.at HF2.out.cap (own_ints HLG.out) (own_ok HLG.out) (by omega) (by omega)) ?_
                rintro e u3 ⟨⟨b1, b2, b3, b4, m1, m2, m3, m4, d1, d2, d3, d4, k1, k2, k3, tb, rfl, hnx⟩, hbN⟩
                dsimp only
                have HF3 : Hid (FSit w u3 cb ao n c (90000000000000 + 4 + 302 * i + 300) ob x a1 a2 a3 c1 c2 c3 L C A B D E) := HF2.out.below hbN
                have HNX : Hid (NextOff w.heap.size x.san b1 b2 b3 m1 m2 m3 d1 d2 d3 tb u3) := hnx.out.lower HF2.out.kept.size
                replace HB8 : Hid (u3.heap[b8]? = some (.cells #[.int .i64 0, .int .i64 0, .int .i64 0, .slice none 0 0] 127 (0, 0))) := blk_below HB8.out hbN
                refine hK.out _ _ HF3.out.s (fun hS => ?_)
                clear hK K HF2 hbN hnx HLG
                simp only [List.set_cons_zero, List.set_cons_succ]
                (refine wpAnyZ_takeN (i := 6) (v := ?_) rfl (by kernel_rfl) (fun _ _ _ h => h) (Or.inl ⟨by rfl, ?_⟩) (by assumption) ?_; rotate_left; (focus (intro w' hSw; (try dsimp only at hSw); go_simp; try with_reducible rfl)); simp only [Act.put, List.setIfInBounds_toArray, List.set_cons_zero, List.set_cons_succ])
                (refine wpAnyZ_takeN (i := 7) (v := ?_) rfl (by kernel_rfl) (fun _ _ _ h => h) (Or.inl ⟨by rfl, ?_⟩) (by assumption) ?_; rotate_left; (focus (intro w' hSw; (try dsimp only at hSw); go_simp; try with_reducible rfl)); simp only [Act.put, List.setIfInBounds_toArray, List.set_cons_zero, List.set_cons_succ])
                (refine wpAnyZ_takeN (i := 8) (v := ?_) rfl (by kernel_rfl) (fun _ _ _ h => h) (Or.inl ⟨by rfl, ?_⟩) (by assumption) ?_; rotate_left; (focus (intro w' hSw; (try dsimp only at hSw); go_simp; try with_reducible rfl)); simp only [Act.put, List.setIfInBounds_toArray, List.set_cons_zero, List.set_cons_succ])
                (refine wpAnyZ_takeN (i := 9) (v := ?_) rfl (by kernel_rfl) (fun _ _ _ h => h) (Or.inl ⟨by rfl, ?_⟩) (by assumption) ?_; rotate_left; (focus (intro w' hSw; (try dsimp only at hSw); go_simp; try with_reducible rfl)); simp only [Act.put, List.setIfInBounds_toArray, List.set_cons_zero, List.set_cons_succ])
                refine wpAnyZ_ready (rs := [10]) (by kernel_rfl) (by simp) ?_
                refine AllReadyZ.consL rfl (fun K hK => ?_) ?_
                · go_simp
                  have HF4 : Hid (FSit w (u3.alloc (.cells #[.slice none 0 0, .slice none 0 0, .slice none 0 0] 66)) cb ao n c (90000000000000 + 4 + 302 * i + 300) ob x a1 a2 a3 c1 c2 c3 L C A B D E) := HF3.out.below (push (Below.refl _ _) _)
                  have HB7 : Hid ((u3.alloc (.cells #[.slice none 0 0, .slice none 0 0, .slice none 0 0] 66)).heap[u3.heap.size]? = some (.cells #[.slice none 0 0, .slice none 0 0, .slice none 0 0] 66 (0, 0))) := heap_alloc_new u3 _
                  have lb7 : ob < u3.heap.size := HF3.out.ob_lt
                  replace HB8 : Hid ((u3.alloc (.cells #[.slice none 0 0, .slice none 0 0, .slice none 0 0] 66)).heap[b8]? = some (.cells #[.int .i64 0, .int .i64 0, .int .i64 0, .slice none 0 0] 127 (0, 0))) := blk_alloc HB8.out _
                  replace HNX : Hid (NextOff w.heap.size x.san b1 b2 b3 m1 m2 m3 d1 d2 d3 tb (u3.alloc (.cells #[.slice none 0 0, .slice none 0 0, .slice none 0 0] 66))) := HNX.out.below (push (Below.refl _ _) _)
                  refine hK.out _ _ HF4.out.s (fun hS => ?_)
                  clear hK K HF3
                  simp only [List.set_cons_zero, List.set_cons_succ]
                  generalize (u3.alloc (.cells #[.slice none 0 0, .slice none 0 0, .slice none 0 0] 66)) = u4 at HF4 HB7 HB8 HNX hS ⊢
                  generalize u3.heap.size = b7 at HB7 lb7 ⊢
                  have hne : b7 ≠ b8 := fun e => by have h7 := HB7.out; rw [e, HB8.out] at h7; simp at h7
                  have q0 := blk_cell HB7.out 0 _ rfl
                  have qf0 := blk_free HB7.out 0
                  have q1 := blk_cell HB7.out 1 _ rfl
                  have qf1 := blk_free HB7.out 1
                  have q2 := blk_cell HB7.out 2 _ rfl
                  have qf2 := blk_free HB7.out 2
                  have hk7 : Kept u4 (((u4.setCell ⟨b7, 0, none⟩ (.slice b1 m1 d1)).setCell ⟨b7, 1, none⟩ (.slice b2 m2 d2)).setCell ⟨b7, 2, none⟩ (.slice b3 m3 d3)) (fun b => b = b7) := ((((Kept.refl u4 (fun b => b = b7)).set (a := ⟨b7, 0, none⟩) rfl (.slice b1 m1 d1)).set (a := ⟨b7, 1, none⟩) rfl (.slice b2 m2 d2)).set (a := ⟨b7, 2, none⟩) rfl (.slice b3 m3 d3))
                  have HG : Hid (FSit w (((u4.setCell ⟨b7, 0, none⟩ (.slice b1 m1 d1)).setCell ⟨b7, 1, none⟩ (.slice b2 m2 d2)).setCell ⟨b7, 2, none⟩ (.slice b3 m3 d3)) cb ao n c (90000000000000 + 4 + 302 * i + 300) ob x a1 a2 a3 c1 c2 c3 L C A B D E) := HF4.out.other hcb HL.out hk7 HB7.out (by decide) lb7
                  have HNX7 : Hid (NextOff w.heap.size x.san b1 b2 b3 m1 m2 m3 d1 d2 d3 tb (((u4.setCell ⟨b7, 0, none⟩ (.slice b1 m1 d1)).setCell ⟨b7, 1, none⟩ (.slice b2 m2 d2)).setCell ⟨b7, 2, none⟩ (.slice b3 m3 d3))) := HNX.out.box hk7 HB7.out (by decide)
                  have HC7 : Hid ((((u4.setCell ⟨b7, 0, none⟩ (.slice b1 m1 d1)).setCell ⟨b7, 1, none⟩ (.slice b2 m2 d2)).setCell ⟨b7, 2, none⟩ (.slice b3 m3 d3)).heap[b7]? = some (.cells #[.slice b1 m1 d1, .slice b2 m2 d2, .slice b3 m3 d3] 66 (0, 0))) := off3_n HB7.out _ _ _
                  have HD8 : Hid ((((u4.setCell ⟨b7, 0, none⟩ (.slice b1 m1 d1)).setCell ⟨b7, 1, none⟩ (.slice b2 m2 d2)).setCell ⟨b7, 2, none⟩ (.slice b3 m3 d3)).heap[b8]? = some (.cells #[.int .i64 0, .int .i64 0, .int .i64 0, .slice none 0 0] 127 (0, 0))) := hk7.blk HB8.out (show ¬ b8 = b7 from fun e => hne e.symm)
                  refine wpAnyZ_ready (rs := [12]) (by kernel_rfl) (by simp) ?_
                  refine AllReadyZ.consL rfl (fun K hK => ?_) AllReadyZ.nil
                  go_simp
                  refine hK.out _ _ HG.out.s (fun hS => ?_)
                  clear hK K HF4 hk7 HNX HB7 HB8 q0 q1 q2 qf0 qf1 qf2
                  simp only [List.set_cons_zero, List.set_cons_succ]
                  generalize (((u4.setCell ⟨b7, 0, none⟩ (.slice b1 m1 d1)).setCell ⟨b7, 1, none⟩ (.slice b2 m2 d2)).setCell ⟨b7, 2, none⟩ (.slice b3 m3 d3)) = v7 at HG HNX7 HC7 HD8 hS ⊢
                  have q0 := blk_cell HD8.out 0 _ rfl
                  have qf0 := blk_free HD8.out 0
                  have q1 := blk_cell HD8.out 1 _ rfl
                  have qf1 := blk_free HD8.out 1
                  have q2 := blk_cell HD8.out 2 _ rfl
                  have qf2 := blk_free HD8.out 2
                  have q3 := blk_cell HD8.out 3 _ rfl
                  have qf3 := blk_free HD8.out 3
                  have hk8 : Kept v7 ((((v7.setCell ⟨b8, 0, none⟩ (.int .i64 k1)).setCell ⟨b8, 1, none⟩ (.int .i64 k2)).setCell ⟨b8, 2, none⟩ (.int .i64 k3)).setCell ⟨b8, 3, none⟩ (.slice b4 m4 d4)) (fun b => b = b8) := (((((Kept.refl v7 (fun b => b = b8)).set (a := ⟨b8, 0, none⟩) rfl (.int .i64 k1)).set (a := ⟨b8, 1, none⟩) rfl (.int .i64 k2)).set (a := ⟨b8, 2, none⟩) rfl (.int .i64 k3)).set (a := ⟨b8, 3, none⟩) rfl (.slice b4 m4 d4))
                  have HH : Hid (FSit w ((((v7.setCell ⟨b8, 0, none⟩ (.int .i64 k1)).setCell ⟨b8, 1, none⟩ (.int .i64 k2)).setCell ⟨b8, 2, none⟩ (.int .i64 k3)).setCell ⟨b8, 3, none⟩ (.slice b4 m4 d4)) cb ao n c (90000000000000 + 4 + 302 * i + 300) ob x a1 a2 a3 c1 c2 c3 L C A B D E) := HG.out.other hcb HL.out hk8 HD8.out (by decide) lb8
                  have HNX8 : Hid (NextOff w.heap.size x.san b1 b2 b3 m1 m2 m3 d1 d2 d3 tb ((((v7.setCell ⟨b8, 0, none⟩ (.int .i64 k1)).setCell ⟨b8, 1, none⟩ (.int .i64 k2)).setCell ⟨b8, 2, none⟩ (.int .i64 k3)).setCell ⟨b8, 3, none⟩ (.slice b4 m4 d4))) := HNX7.out.box hk8 HD8.out (by decide)
                  have HC8 : Hid (((((v7.setCell ⟨b8, 0, none⟩ (.int .i64 k1)).setCell ⟨b8, 1, none⟩ (.int .i64 k2)).setCell ⟨b8, 2, none⟩ (.int .i64 k3)).setCell ⟨b8, 3, none⟩ (.slice b4 m4 d4)).heap[b7]? = some (.cells #[.slice b1 m1 d1, .slice b2 m2 d2, .slice b3 m3 d3] 66 (0, 0))) := hk8.blk HC7.out hne
                  refine wpAnyZ_ready (rs := [13]) (by kernel_rfl) (by simp) ?_
                  refine AllReadyZ.consL rfl (fun K hK => ?_) AllReadyZ.nil
                  go_simp
                  refine hK.out _ _ HH.out.s (fun hS => ?_)
                  clear hK K HG hk8 HNX7 HC7 HD8 q0 q1 q2 q3 qf0 qf1 qf2 qf3
                  simp only [List.set_cons_zero, List.set_cons_succ]
                  generalize ((((v7.setCell ⟨b8, 0, none⟩ (.int .i64 k1)).setCell ⟨b8, 1, none⟩ (.int .i64 k2)).setCell ⟨b8, 2, none⟩ (.int .i64 k3)).setCell ⟨b8, 3, none⟩ (.slice b4 m4 d4)) = v8 at HH HNX8 HC8 hS ⊢
                  refine wpAnyZ_ready (rs := [14]) (by kernel_rfl) (by simp) ?_
                  refine AllReadyZ.consL rfl (fun K hK => ?_) AllReadyZ.nil
                  go_simp
                  refine hK.out _ _ HH.out.s (fun hS => ?_)
                  clear hK K
                  simp only [List.set_cons_zero, List.set_cons_succ]
                  refine wpAnyZ_done (by kernel_rfl) ?_ _
                  go_wp2
                  go_meet
                  exact ⟨b7, tb, b1, b2, b3, m1, m2, m3, d1, d2, d3, rfl, rfl, lb7, HC8, HNX8, HH⟩
                exact AllReadyZ.nil
              refine AllReadyZ.consL rfl (fun K hK => ?_) ?_
              · go_simp
                have HF3 : Hid (FSit w (u2.alloc (.cells #[.slice none 0 0, .slice none 0 0, .slice none 0 0] 66)) cb ao n c (90000000000000 + 4 + 302 * i + 300) ob x a1 a2 a3 c1 c2 c3 L C A B D E) := HF2.out.below (push (Below.refl _ _) _)
                have HB7 : Hid ((u2.alloc (.cells #[.slice none 0 0, .slice none 0 0, .slice none 0 0] 66)).heap[u2.heap.size]? = some (.cells #[.slice none 0 0, .slice none 0 0, .slice none 0 0] 66 (0, 0))) := heap_alloc_new u2 _
                have lb7 : ob < u2.heap.size := HF2.out.ob_lt
                replace HB8 : Hid ((u2.alloc (.cells #[.slice none 0 0, .slice none 0 0, .slice none 0 0] 66)).heap[b8]? = some (.cells #[.int .i64 0, .int .i64 0, .int .i64 0, .slice none 0 0] 127 (0, 0))) := blk_alloc HB8.out _
                replace HLG : Hid ((u2.alloc (.cells #[.slice none 0 0, .slice none 0 0, .slice none 0 0] 66)).ownsRow w.heap.size 3 1 (.slice ag y.lgn cg) y.lgn (intList y.lg y.lgn)) := own_below (push (Below.refl _ _) _) HLG.out
                refine hK.out _ _ HF3.out.s (fun hS => ?_)
                clear hK K HF2
                simp only [List.set_cons_zero, List.set_cons_succ]
                generalize (u2.alloc (.cells #[.slice none 0 0, .slice none 0 0, .slice none 0 0] 66)) = u3 at HF3 HB7 HB8 HLG hS ⊢
                generalize u2.heap.size = b7 at HB7 lb7 ⊢
                refine wpAnyZ_ready (rs := [5]) (by kernel_rfl) (by simp) ?_
                refine AllReadyZ.consL rfl (fun K hK => ?_) ?_
                · go_simp
                  go_at_call 80
                  refine Calls.mono (dop_next x a1 a2 a3 ag c1 c2 c3 cg (i : Int) y u3 hx3 HF3.out.own.sa.at HF3.out.own.ld.at HF3.out.own.bk.at HF3.out.cap (own_ints HLG.out) (own_ok HLG.out) (by omega) (by omega)) ?_
                  rintro e u4 ⟨⟨b1, b2, b3, b4, m1, m2, m3, m4, d1, d2, d3, d4, k1, k2, k3, tb, rfl, hnx⟩, hbN⟩
                  dsimp only
                  have HF4 : Hid (FSit w u4 cb ao n c (90000000000000 + 4 + 302 * i + 300) ob x a1 a2 a3 c1 c2 c3 L C A B D E) := HF3.out.below hbN
                  have HNX : Hid (NextOff w.heap.size x.san b1 b2 b3 m1 m2 m3 d1 d2 d3 tb u4) := hnx.out.lower HF3.out.kept.size
                  replace HB7 : Hid (u4.heap[b7]? = some (.cells #[.slice none 0 0, .slice none 0 0, .slice none 0 0] 66 (0, 0))) := blk_below HB7.out hbN
                  replace HB8 : Hid (u4.heap[b8]? = some (.cells #[.int .i64 0, .int .i64 0, .int .i64 0, .slice none 0 0] 127 (0, 0))) := blk_below HB8.out hbN
                  refine hK.out _ _ HF4.out.s (fun hS => ?_)
                  clear hK K HF3 hbN hnx HLG
                  simp only [List.set_cons_zero, List.set_cons_succ]
                  (refine wpAnyZ_takeN (i := 6) (v := ?_) rfl (by kernel_rfl) (fun _ _ _ h => h) (Or.inl ⟨by rfl, ?_⟩) (by assumption) ?_; rotate_left; (focus (intro w' hSw; (try dsimp only at hSw); go_simp; try with_reducible rfl)); simp only [Act.put, List.setIfInBounds_toArray, List.set_cons_zero, List.set_cons_succ])
                  (refine wpAnyZ_takeN (i := 7) (v := ?_) rfl (by kernel_rfl) (fun _ _ _ h => h) (Or.inl ⟨by rfl, ?_⟩) (by assumption) ?_; rotate_left; (focus (intro w' hSw; (try dsimp only at hSw); go_simp; try with_reducible rfl)); simp only [Act.put, List.setIfInBounds_toArray, List.set_cons_zero, List.set_cons_succ])
                  (refine wpAnyZ_takeN (i := 8) (v := ?_) rfl (by kernel_rfl) (fun _ _ _ h => h) (Or.inl ⟨by rfl, ?_⟩) (by assumption) ?_; rotate_left; (focus (intro w' hSw; (try dsimp only at hSw); go_simp; try with_reducible rfl)); simp only [Act.put, List.setIfInBounds_toArray, List.set_cons_zero, List.set_cons_succ])
                  (refine wpAnyZ_takeN (i := 9) (v := ?_) rfl (by kernel_rfl) (fun _ _ _ h => h) (Or.inl ⟨by rfl, ?_⟩) (by assumption) ?_; rotate_left; (focus (intro w' hSw; (try dsimp only at hSw); go_simp; try with_reducible rfl)); simp only [Act.put, List.setIfInBounds_toArray, List.set_cons_zero, List.set_cons_succ])
                  have hne : b7 ≠ b8 := fun e => by have h7 := HB7.out; rw [e, HB8.out] at h7; simp at h7
                  have q0 := blk_cell HB7.out 0 _ rfl
                  have qf0 := blk_free HB7.out 0
                  have q1 := blk_cell HB7.out 1 _ rfl
                  have qf1 := blk_free HB7.out 1
                  have q2 := blk_cell HB7.out 2 _ rfl
                  have qf2 := blk_free HB7.out 2
                  have hk7 : Kept u4 (((u4.setCell ⟨b7, 0, none⟩ (.slice b1 m1 d1)).setCell ⟨b7, 1, none⟩ (.slice b2 m2 d2)).setCell ⟨b7, 2, none⟩ (.slice b3 m3 d3)) (fun b => b = b7) := ((((Kept.refl u4 (fun b => b = b7)).set (a := ⟨b7, 0, none⟩) rfl (.slice b1 m1 d1)).set (a := ⟨b7, 1, none⟩) rfl (.slice b2 m2 d2)).set (a := ⟨b7, 2, none⟩) rfl (.slice b3 m3 d3))
                  have HG : Hid (FSit w (((u4.setCell ⟨b7, 0, none⟩ (.slice b1 m1 d1)).setCell ⟨b7, 1, none⟩ (.slice b2 m2 d2)).setCell ⟨b7, 2, none⟩ (.slice b3 m3 d3)) cb ao n c (90000000000000 + 4 + 302 * i + 300) ob x a1 a2 a3 c1 c2 c3 L C A B D E) := HF4.out.other hcb HL.out hk7 HB7.out (by decide) lb7
                  have HNX7 : Hid (NextOff w.heap.size x.san b1 b2 b3 m1 m2 m3 d1 d2 d3 tb (((u4.setCell ⟨b7, 0, none⟩ (.slice b1 m1 d1)).setCell ⟨b7, 1, none⟩ (.slice b2 m2 d2)).setCell ⟨b7, 2, none⟩ (.slice b3 m3 d3))) := HNX.out.box hk7 HB7.out (by decide)
                  have HC7 : Hid ((((u4.setCell ⟨b7, 0, none⟩ (.slice b1 m1 d1)).setCell ⟨b7, 1, none⟩ (.slice b2 m2 d2)).setCell ⟨b7, 2, none⟩ (.slice b3 m3 d3)).heap[b7]? = some (.cells #[.slice b1 m1 d1, .slice b2 m2 d2, .slice b3 m3 d3] 66 (0, 0))) := off3_n HB7.out _ _ _
                  have HD8 : Hid ((((u4.setCell ⟨b7, 0, none⟩ (.slice b1 m1 d1)).setCell ⟨b7, 1, none⟩ (.slice b2 m2 d2)).setCell ⟨b7, 2, none⟩ (.slice b3 m3 d3)).heap[b8]? = some (.cells #[.int .i64 0, .int .i64 0, .int .i64 0, .slice none 0 0] 127 (0, 0))) := hk7.blk HB8.out (show ¬ b8 = b7 from fun e => hne e.symm)
                  refine wpAnyZ_ready (rs := [12]) (by kernel_rfl) (by simp) ?_
                  refine AllReadyZ.consL rfl (fun K hK => ?_) AllReadyZ.nil
                  go_simp
                  refine hK.out _ _ HG.out.s (fun hS => ?_)
                  clear hK K HF4 hk7 HNX HB7 HB8 q0 q1 q2 qf0 qf1 qf2
                  simp only [List.set_cons_zero, List.set_cons_succ]
                  generalize (((u4.setCell ⟨b7, 0, none⟩ (.slice b1 m1 d1)).setCell ⟨b7, 1, none⟩ (.slice b2 m2 d2)).setCell ⟨b7, 2, none⟩ (.slice b3 m3 d3)) = v7 at HG HNX7 HC7 HD8 hS ⊢
                  have q0 := blk_cell HD8.out 0 _ rfl
                  have qf0 := blk_free HD8.out 0
                  have q1 := blk_cell HD8.out 1 _ rfl
                  have qf1 := blk_free HD8.out 1
                  have q2 := blk_cell HD8.out 2 _ rfl
                  have qf2 := blk_free HD8.out 2
                  have q3 := blk_cell HD8.out 3 _ rfl
                  have qf3 := blk_free HD8.out 3
                  have hk8 : Kept v7 ((((v7.setCell ⟨b8, 0, none⟩ (.int .i64 k1)).setCell ⟨b8, 1, none⟩ (.int .i64 k2)).setCell ⟨b8, 2, none⟩ (.int .i64 k3)).setCell ⟨b8, 3, none⟩ (.slice b4 m4 d4)) (fun b => b = b8) := (((((Kept.refl v7 (fun b => b = b8)).set (a := ⟨b8, 0, none⟩) rfl (.int .i64 k1)).set (a := ⟨b8, 1, none⟩) rfl (.int .i64 k2)).set (a := ⟨b8, 2, none⟩) rfl (.int .i64 k3)).set (a := ⟨b8, 3, none⟩) rfl (.slice b4 m4 d4))
                  have HH : Hid (FSit w ((((v7.setCell ⟨b8, 0, none⟩ (.int .i64 k1)).setCell ⟨b8, 1, none⟩ (.int .i64 k2)).setCell ⟨b8, 2, none⟩ (.int .i64 k3)).setCell ⟨b8, 3, none⟩ (.slice b4 m4 d4)) cb ao n c (90000000000000 + 4 + 302 * i + 300) ob x a1 a2 a3 c1 c2 c3 L C A B D E) := HG.out.other hcb HL.out hk8 HD8.out (by decide) lb8
                  have HNX8 : Hid (NextOff w.heap.size x.san b1 b2 b3 m1 m2 m3 d1 d2 d3 tb ((((v7.setCell ⟨b8, 0, none⟩ (.int .i64 k1)).setCell ⟨b8, 1, none⟩ (.int .i64 k2)).setCell ⟨b8, 2, none⟩ (.int .i64 k3)).setCell ⟨b8, 3, none⟩ (.slice b4 m4 d4))) := HNX7.out.box hk8 HD8.out (by decide)
                  have HC8 : Hid (((((v7.setCell ⟨b8, 0, none⟩ (.int .i64 k1)).setCell ⟨b8, 1, none⟩ (.int .i64 k2)).setCell ⟨b8, 2, none⟩ (.int .i64 k3)).setCell ⟨b8, 3, none⟩ (.slice b4 m4 d4)).heap[b7]? = some (.cells #[.slice b1 m1 d1, .slice b2 m2 d2, .slice b3 m3 d3] 66 (0, 0))) := hk8.blk HC7.out hne
                  refine wpAnyZ_ready (rs := [13]) (by kernel_rfl) (by simp) ?_
                  refine AllReadyZ.consL rfl (fun K hK => ?_) AllReadyZ.nil
                  go_simp
                  refine hK.out _ _ HH.out.s (fun hS => ?_)
                  clear hK K HG hk8 HNX7 HC7 HD8 q0 q1 q2 q3 qf0 qf1 qf2 qf3
                  simp only [List.set_cons_zero, List.set_cons_succ]
                  generalize ((((v7.setCell ⟨b8, 0, none⟩ (.int .i64 k1)).setCell ⟨b8, 1, none⟩ (.int .i64 k2)).setCell ⟨b8, 2, none⟩ (.int .i64 k3)).setCell ⟨b8, 3, none⟩ (.slice b4 m4 d4)) = v8 at HH HNX8 HC8 hS ⊢
                  refine wpAnyZ_ready (rs := [14]) (by kernel_rfl) (by simp) ?_
                  refine AllReadyZ.consL rfl (fun K hK => ?_) AllReadyZ.nil
                  go_simp
                  refine hK.out _ _ HH.out.s (fun hS => ?_)
                  clear hK K
                  simp only [List.set_cons_zero, List.set_cons_succ]
                  refine wpAnyZ_done (by kernel_rfl) ?_ _
                  go_wp2
                  go_meet
                  exact ⟨b7, tb, b1, b2, b3, m1, m2, m3, d1, d2, d3, rfl, rfl, lb7, HC8, HNX8, HH⟩
                exact AllReadyZ.nil
              exact AllReadyZ.nil
            refine AllReadyZ.consL rfl (fun K hK => ?_) ?_
            · go_simp
              have HF2 : Hid (FSit w (u1.alloc (.cells #[.slice none 0 0, .slice none 0 0, .slice none 0 0] 66)) cb ao n c (90000000000000 + 4 + 302 * i) ob x a1 a2 a3 c1 c2 c3 L C A B D E) := HF1.out.below (push (Below.refl _ _) _)
              have HB7 : Hid ((u1.alloc (.cells #[.slice none 0 0, .slice none 0 0, .slice none 0 0] 66)).heap[u1.heap.size]? = some (.cells #[.slice none 0 0, .slice none 0 0, .slice none 0 0] 66 (0, 0))) := heap_alloc_new u1 _
              have lb7 : ob < u1.heap.size := HF1.out.ob_lt
              replace HB8 : Hid ((u1.alloc (.cells #[.slice none 0 0, .slice none 0 0, .slice none 0 0] 66)).heap[b8]? = some (.cells #[.int .i64 0, .int .i64 0, .int .i64 0, .slice none 0 0] 127 (0, 0))) := blk_alloc HB8.out _
              refine hK.out _ _ HF2.out.s (fun hS => ?_)
              clear hK K HF1
              simp only [List.set_cons_zero, List.set_cons_succ]
              generalize (u1.alloc (.cells #[.slice none 0 0, .slice none 0 0, .slice none 0 0] 66)) = u2 at HF2 HB7 HB8 hS ⊢
              generalize u1.heap.size = b7 at HB7 lb7 ⊢
              refine wpAnyZ_ready (rs := [4]) (by kernel_rfl) (by simp) ?_
              refine AllReadyZ.consL rfl (fun K hK => ?_) ?_
              · go_simp
                go_at_call 29
                refine Calls.mono (op_any cb ao n c (90000000000000 + 4 + 302 * i) a1 a2 a3 x.san c1 x.ldn c2 x.bkn c3 x.sa u2 (by omega) (by omega) (by omega) HF2.out.cur HF2.out.sails) ?_
                rintro e u3 ⟨⟨y, ag, cg, rfl, hy1, hy2, hlg⟩, hcN, hkN⟩
                dsimp only
                have HF3 : Hid (FSit w u3 cb ao n c (90000000000000 + 4 + 302 * i + 300) ob x a1 a2 a3 c1 c2 c3 L C A B D E) := HF2.out.on hcb hcN hkN
                have HLG : Hid (u3.ownsRow w.heap.size 3 1 (.slice ag y.lgn cg) y.lgn (intList y.lg y.lgn)) := own_base hlg HF2.out.kept.size
                have hwo := HF2.out.lt
                replace HB7 : Hid (u3.heap[b7]? = some (.cells #[.slice none 0 0, .slice none 0 0, .slice none 0 0] 66 (0, 0))) := hkN.blk HB7.out (show ¬ b7 = cb by omega)
                replace HB8 : Hid (u3.heap[b8]? = some (.cells #[.int .i64 0, .int .i64 0, .int .i64 0, .slice none 0 0] 127 (0, 0))) := hkN.blk HB8.out (show ¬ b8 = cb by omega)
                refine hK.out _ _ HF3.out.s (fun hS => ?_)
                clear hK K HF2 hcN hkN hlg hwo
                simp only [List.set_cons_zero, List.set_cons_succ]
                refine wpAnyZ_ready (rs := [5]) (by kernel_rfl) (by simp) ?_
                refine AllReadyZ.consL rfl (fun K hK => ?_) ?_
                · go_simp
                  go_at_call 80
                  refine Calls.mono (dop_next x a1 a2 a3 ag c1 c2 c3 cg (i : Int) y u3 hx3 HF3.out.own.sa.at HF3.out.own.ld.at HF3.out.own.bk.at HF3.out.cap (own_ints HLG.out) (own_ok HLG.out) (by omega) (by omega)) ?_
                  rintro e u4 ⟨⟨b1, b2, b3, b4, m1, m2, m3, m4, d1, d2, d3, d4, k1, k2, k3, tb, rfl, hnx⟩, hbN⟩
                  dsimp only
                  have HF4 : Hid (FSit w u4 cb ao n c (90000000000000 + 4 + 302 * i + 300) ob x a1 a2 a3 c1 c2 c3 L C A B D E) := HF3.out.below hbN
                  have HNX : Hid (NextOff w.heap.size x.san b1 b2 b3 m1 m2 m3 d1 d2 d3 tb u4) := hnx.out.lower HF3.out.kept.size
                  replace HB7 : Hid (u4.heap[b7]? = some (.cells #[.slice none 0 0, .slice none 0 0, .slice none 0 0] 66 (0, 0))) := blk_below HB7.out hbN
                  replace HB8 : Hid (u4.heap[b8]? = some (.cells #[.int .i64 0, .int .i64 0, .int .i64 0, .slice none 0 0] 127 (0, 0))) := blk_below HB8.out hbN
                  refine hK.out _ _ HF4.out.s (fun hS => ?_)
                  clear hK K HF3 hbN hnx HLG
                  simp only [List.set_cons_zero, List.set_cons_succ]
                  (refine wpAnyZ_takeN (i := 6) (v := ?_) rfl (by kernel_rfl) (fun _ _ _ h => h) (Or.inl ⟨by rfl, ?_⟩) (by assumption) ?_; rotate_left; (focus (intro w' hSw; (try dsimp only at hSw); go_simp; try with_reducible rfl)); simp only [Act.put, List.setIfInBounds_toArray, List.set_cons_zero, List.set_cons_succ])
                  (refine wpAnyZ_takeN (i := 7) (v := ?_) rfl (by kernel_rfl) (fun _ _ _ h => h) (Or.inl ⟨by rfl, ?_⟩) (by assumption) ?_; rotate_left; (focus (intro w' hSw; (try dsimp only at hSw); go_simp; try with_reducible rfl)); simp only [Act.put, List.setIfInBounds_toArray, List.set_cons_zero, List.set_cons_succ])
                  (refine wpAnyZ_takeN (i := 8) (v := ?_) rfl (by kernel_rfl) (fun _ _ _ h => h) (Or.inl ⟨by rfl, ?_⟩) (by assumption) ?_; rotate_left; (focus (intro w' hSw; (try dsimp only at hSw); go_simp; try with_reducible rfl)); simp only [Act.put, List.setIfInBounds_toArray, List.set_cons_zero, List.set_cons_succ])
                  (refine wpAnyZ_takeN (i := 9) (v := ?_) rfl (by kernel_rfl) (fun _ _ _ h => h) (Or.inl ⟨by rfl, ?_⟩) (by assumption) ?_; rotate_left; (focus (intro w' hSw; (try dsimp only at hSw); go_simp; try with_reducible rfl)); simp only [Act.put, List.setIfInBounds_toArray, List.set_cons_zero, List.set_cons_succ])
                  have hne : b7 ≠ b8 := fun e => by have h7 := HB7.out; rw [e, HB8.out] at h7; simp at h7
                  have q0 := blk_cell HB7.out 0 _ rfl
                  have qf0 := blk_free HB7.out 0
                  have q1 := blk_cell HB7.out 1 _ rfl
                  have qf1 := blk_free HB7.out 1
                  have q2 := blk_cell HB7.out 2 _ rfl
                  have qf2 := blk_free HB7.out 2
                  have hk7 : Kept u4 (((u4.setCell ⟨b7, 0, none⟩ (.slice b1 m1 d1)).setCell ⟨b7, 1, none⟩ (.slice b2 m2 d2)).setCell ⟨b7, 2, none⟩ (.slice b3 m3 d3)) (fun b => b = b7) := ((((Kept.refl u4 (fun b => b = b7)).set (a := ⟨b7, 0, none⟩) rfl (.slice b1 m1 d1)).set (a := ⟨b7, 1, none⟩) rfl (.slice b2 m2 d2)).set (a := ⟨b7, 2, none⟩) rfl (.slice b3 m3 d3))
                  have HG : Hid (FSit w (((u4.setCell ⟨b7, 0, none⟩ (.slice b1 m1 d1)).setCell ⟨b7, 1, none⟩ (.slice b2 m2 d2)).setCell ⟨b7, 2, none⟩ (.slice b3 m3 d3)) cb ao n c (90000000000000 + 4 + 302 * i + 300) ob x a1 a2 a3 c1 c2 c3 L C A B D E) := HF4.out.other hcb HL.out hk7 HB7.out (by decide) lb7
                  have HNX7 : Hid (NextOff w.heap.size x.san b1 b2 b3 m1 m2 m3 d1 d2 d3 tb (((u4.setCell ⟨b7, 0, none⟩ (.slice b1 m1 d1)).setCell ⟨b7, 1, none⟩ (.slice b2 m2 d2)).setCell ⟨b7, 2, none⟩ (.slice b3 m3 d3))) := HNX.out.box hk7 HB7.out (by decide)
                  have HC7 : Hid ((((u4.setCell ⟨b7, 0, none⟩ (.slice b1 m1 d1)).setCell ⟨b7, 1, none⟩ (.slice b2 m2 d2)).setCell ⟨b7, 2, none⟩ (.slice b3 m3 d3)).heap[b7]? = some (.cells #[.slice b1 m1 d1, .slice b2 m2 d2, .slice b3 m3 d3] 66 (0, 0))) := off3_n HB7.out _ _ _
                  have HD8 : Hid ((((u4.setCell ⟨b7, 0, none⟩ (.slice b1 m1 d1)).setCell ⟨b7, 1, none⟩ (.slice b2 m2 d2)).setCell ⟨b7, 2, none⟩ (.slice b3 m3 d3)).heap[b8]? = some (.cells #[.int .i64 0, .int .i64 0, .int .i64 0, .slice none 0 0] 127 (0, 0))) := hk7.blk HB8.out (show ¬ b8 = b7 from fun e => hne e.symm)
                  refine wpAnyZ_ready (rs := [12]) (by kernel_rfl) (by simp) ?_
                  refine AllReadyZ.consL rfl (fun K hK => ?_) AllReadyZ.nil
                  go_simp
                  refine hK.out _ _ HG.out.s (fun hS => ?_)
                  clear hK K HF4 hk7 HNX HB7 HB8 q0 q1 q2 qf0 qf1 qf2
                  simp only [List.set_cons_zero, List.set_cons_succ]
                  generalize (((u4.setCell ⟨b7, 0, none⟩ (.slice b1 m1 d1)).setCell ⟨b7, 1, none⟩ (.slice b2 m2 d2)).setCell ⟨b7, 2, none⟩ (.slice b3 m3 d3)) = v7 at HG HNX7 HC7 HD8 hS ⊢
                  have q0 := blk_cell HD8.out 0 _ rfl
                  have qf0 := blk_free HD8.out 0
                  have q1 := blk_cell HD8.out 1 _ rfl
                  have qf1 := blk_free HD8.out 1
                  have q2 := blk_cell HD8.out 2 _ rfl
                  have qf2 := blk_free HD8.out 2
                  have q3 := blk_cell HD8.out 3 _ rfl
                  have qf3 := blk_free HD8.out 3
                  have hk8 : Kept v7 ((((v7.setCell ⟨b8, 0, none⟩ (.int .i64 k1)).setCell ⟨b8, 1, none⟩ (.int .i64 k2)).setCell ⟨b8, 2, none⟩ (.int .i64 k3)).setCell ⟨b8, 3, none⟩ (.slice b4 m4 d4)) (fun b => b = b8) := (((((Kept.refl v7 (fun b => b = b8)).set (a := ⟨b8, 0, none⟩) rfl (.int .i64 k1)).set (a := ⟨b8, 1, none⟩) rfl (.int .i64 k2)).set (a := ⟨b8, 2, none⟩) rfl (.int .i64 k3)).set (a := ⟨b8, 3, none⟩) rfl (.slice b4 m4 d4))
                  have HH : Hid (FSit w ((((v7.setCell ⟨b8, 0, none⟩ (.int .i64 k1)).setCell ⟨b8, 1, none⟩ (.int .i64 k2)).setCell ⟨b8, 2, none⟩ (.int .i64 k3)).setCell ⟨b8, 3, none⟩ (.slice b4 m4 d4)) cb ao n c (90000000000000 + 4 + 302 * i + 300) ob x a1 a2 a3 c1 c2 c3 L C A B D E) := HG.out.other hcb HL.out hk8 HD8.out (by decide) lb8
                  have HNX8 : Hid (NextOff w.heap.size x.san b1 b2 b3 m1 m2 m3 d1 d2 d3 tb ((((v7.setCell ⟨b8, 0, none⟩ (.int .i64 k1)).setCell ⟨b8, 1, none⟩ (.int .i64 k2)).setCell ⟨b8, 2, none⟩ (.int .i64 k3)).setCell ⟨b8, 3, none⟩ (.slice b4 m4 d4))) := HNX7.out.box hk8 HD8.out (by decide)
                  have HC8 : Hid (((((v7.setCell ⟨b8, 0, none⟩ (.int .i64 k1)).setCell ⟨b8, 1, none⟩ (.int .i64 k2)).setCell ⟨b8, 2, none⟩ (.int .i64 k3)).setCell ⟨b8, 3, none⟩ (.slice b4 m4 d4)).heap[b7]? = some (.cells #[.slice b1 m1 d1, .slice b2 m2 d2, .slice b3 m3 d3] 66 (0, 0))) := hk8.blk HC7.out hne
                  refine wpAnyZ_ready (rs := [13]) (by kernel_rfl) (by simp) ?_
                  refine AllReadyZ.consL rfl (fun K hK => ?_) AllReadyZ.nil
                  go_simp
                  refine hK.out _ _ HH.out.s (fun hS => ?_)
                  clear hK K HG hk8 HNX7 HC7 HD8 q0 q1 q2 q3 qf0 qf1 qf2 qf3
                  simp only [List.set_cons_zero, List.set_cons_succ]
                  generalize ((((v7.setCell ⟨b8, 0, none⟩ (.int .i64 k1)).setCell ⟨b8, 1, none⟩ (.int .i64 k2)).setCell ⟨b8, 2, none⟩ (.int .i64 k3)).setCell ⟨b8, 3, none⟩ (.slice b4 m4 d4)) = v8 at HH HNX8 HC8 hS ⊢
                  refine wpAnyZ_ready (rs := [14]) (by kernel_rfl) (by simp) ?_
                  refine AllReadyZ.consL rfl (fun K hK => ?_) AllReadyZ.nil
                  go_simp
                  refine hK.out _ _ HH.out.s (fun hS => ?_)
                  clear hK K
                  simp only [List.set_cons_zero, List.set_cons_succ]
                  refine wpAnyZ_done (by kernel_rfl) ?_ _
                  go_wp2
                  go_meet
                  exact ⟨b7, tb, b1, b2, b3, m1, m2, m3, d1, d2, d3, rfl, rfl, lb7, HC8, HNX8, HH⟩
                exact AllReadyZ.nil
              exact AllReadyZ.nil
            exact AllReadyZ.nil
          exact AllReadyZ.nil

        case rest =>
          obtain ⟨b7, tb, b1, b2, b3, m1, m2, m3, d1, d2, d3, rfl, rfl, hlt7, HC, HN, HQ⟩ := hcut
          clear HP
          have hw1 : IntKind.i64.wrap ((i : Int) + 1) = ((i + 1 : Nat) : Int) := by rw [IntKind.wrap_i64]; omega
          cases tb with
          | false =>
            go_wp2
            go_roundw
            case rel => exact ⟨i + 1, rfl, by omega, by omega, x, a1, a2, a3, c1, c2, c3, L, C, A, B, D, E, hx1, hx2, hx3, HQ.out.more (by omega)⟩
            case measure => simp [intOf]; omega
          | true =>
            rcases HN.out with h | ⟨x2, L2, C2, A2, B2, D2, E2, rfl, rfl, rfl, e1, e2, e3, hO2⟩
            · cases h
            · have HO2 : Hid _ := hO2
              have HE1 : Hid (x2.san = x.san) := e1
              clear hO2 HN e1
              have q0 := blk_cell HC.out 0 _ rfl
              have q1 := blk_cell HC.out 1 _ rfl
              have q2 := blk_cell HC.out 2 _ rfl
              have r0 := blk_cell HQ.out.box 0 _ rfl
              have r1 := blk_cell HQ.out.box 1 _ rfl
              have r2 := blk_cell HQ.out.box 2 _ rfl
              have f0 := blk_free HQ.out.box 0
              have f1 := blk_free HQ.out.box 1
              have f2 := blk_free HQ.out.box 2
              go_wp2
              go_roundw
              case rel => exact ⟨i + 1, rfl, by omega, by omega, x2, b1, b2, b3, d1, d2, d3, L2, C2, A2, B2, D2, E2, (by have := HE1.out; omega), e2, e3, (HQ.out.to hcb HL.out HO2.out).more (by omega)⟩
              case measure => simp [intOf]; omega
      · have d1 : decide ((i : Int) ≤ (m : Int)) = false := decide_eq_false (by omega)
        have i0 : ¬ (i : Int) ≤ (m : Int) := by omega
        have HPm : Hid (FSit w wr cb ao n c (90000000012998) ob x a1 a2 a3 c1 c2 c3 L C A B D E) := HP.out.more (by omega)
        clear HP
        go_wp2_with fail
        refine (pick_any cb ao n c (90000000012998) 40 _ (by omega) (by omega) (by omega) HPm.out.cur).mono ?_
        rintro e u3 ⟨⟨r, rfl, hr⟩, hcN, hkN⟩
        have HQ : Hid (FSit w u3 cb ao n c (90000000013000) ob x a1 a2 a3 c1 c2 c3 L C A B D E) := HPm.out.on hcb hcN hkN
        clear HPm hcN hkN d1 i0
        go_upto_block 2 with fail
        go_cut [] (fun wx => ∃ (N : Nat) (S : Nat → Sail) (a1 a2 a3 : Option Addr) (m2 m3 c1 c2 c3 : Nat) (L C : Nat → Value), N ≤ 7 ∧ m3 ≤ 31 ∧ Hid (WSit w wx cb ao n c (90000000020000) ob N S a1 a2 a3 m2 m3 c1 c2 c3 L C))
        case first =>
          by_cases e0 : r = 0
          · subst e0
            obtain ⟨r0, ri, rz0, rz1, rz2⟩ := info_parts Tryz.infoBookingO
            have hwb : IntKind.i64.wrap ((x.bkn : Int) + 1) = (x.bkn : Int) + 1 := by rw [IntKind.wrap_i64]; omega
            go_upto_region 13 with fail
            have HW0 : Hid (WSit w u3.drew cb ao n c (90000000013000) ob x.san x.sa a1 a2 a3 x.ldn x.bkn c1 c2 c3 L C) := HQ.out.weak.below (Below.refl _ _).drew
            have HBK : Hid (u3.drew.ownsRow w.heap.size 131 13 (.slice a3 x.bkn c3) x.bkn (bkRow x.bk E x.bkn)) := (HQ.out.own.below (Below.refl _ _).drew).bk.row
            refine wp_region_z 19 20 (fun w' => w'.cell? ⟨ob, 0, none⟩ = some (.slice a1 x.san c1) ∧ w'.cell? ⟨ob, 1, none⟩ = some (.slice a2 x.ldn c2) ∧ w'.cell? ⟨ob, 2, none⟩ = some (.slice a3 x.bkn c3)) rfl (by kernel_rfl) HW0.out.s (fun hS => ?_)
            clear HQ
            simp only [List.replicate_succ, List.replicate_zero]
            generalize u3.drew = y0 at HW0 HBK hS ⊢
            (refine wpAnyZ_takeL (i := 0) (v := ?_) rfl (by kernel_rfl) (fun _ _ _ h => h) (Or.inl ⟨by rfl, ?_⟩) (by assumption) ?_; rotate_left; (focus (intro w' hSw; (try dsimp only at hSw); go_simp; try with_reducible rfl)); simp only [Act.put, List.setIfInBounds_toArray, List.set_cons_zero, List.set_cons_succ])
            (refine wpAnyZ_takeL (i := 1) (v := ?_) rfl (by kernel_rfl) (fun _ _ _ h => h) (Or.inl ⟨by rfl, ?_⟩) (by assumption) ?_; rotate_left; (focus (intro w' hSw; (try dsimp only at hSw); go_simp; try with_reducible rfl)); simp only [Act.put, List.setIfInBounds_toArray, List.set_cons_zero, List.set_cons_succ])
            (refine wpAnyZ_takeL (i := 2) (v := ?_) rfl (by kernel_rfl) (fun _ _ _ h => h) (Or.inl ⟨by rfl, ?_⟩) (by assumption) ?_; rotate_left; (focus (intro w' hSw; (try dsimp only at hSw); go_simp; try with_reducible rfl)); simp only [Act.put, List.setIfInBounds_toArray, List.set_cons_zero, List.set_cons_succ])
            (refine wpAnyZ_takeL (i := 3) (v := ?_) rfl (by kernel_rfl) (fun _ _ _ h => h) (Or.inl ⟨by rfl, ?_⟩) (by assumption) ?_; rotate_left; (focus (intro w' hSw; (try dsimp only at hSw); go_simp; try with_reducible rfl)); simp only [Act.put, List.setIfInBounds_toArray, List.set_cons_zero, List.set_cons_succ])
            (refine wpAnyZ_takeL (i := 4) (v := ?_) rfl (by kernel_rfl) (fun _ _ _ h => h) (Or.inl ⟨by rfl, ?_⟩) (by assumption) ?_; rotate_left; (focus (intro w' hSw; (try dsimp only at hSw); go_simp; try with_reducible rfl)); simp only [Act.put, List.setIfInBounds_toArray, List.set_cons_zero, List.set_cons_succ])
            (refine wpAnyZ_takeL (i := 5) (v := ?_) rfl (by kernel_rfl) (fun _ _ _ h => h) (Or.inl ⟨by rfl, ?_⟩) (by assumption) ?_; rotate_left; (focus (intro w' hSw; (try dsimp only at hSw); go_simp; try with_reducible rfl)); simp only [Act.put, List.setIfInBounds_toArray, List.set_cons_zero, List.set_cons_succ])
            (refine wpAnyZ_takeL (i := 6) (v := ?_) rfl (by kernel_rfl) (fun _ _ _ h => h) (Or.inl ⟨by rfl, ?_⟩) (by assumption) ?_; rotate_left; (focus (intro w' hSw; (try dsimp only at hSw); go_simp; try with_reducible rfl)); simp only [Act.put, List.setIfInBounds_toArray, List.set_cons_zero, List.set_cons_succ])
            (refine wpAnyZ_takeL (i := 7) (v := ?_) rfl (by kernel_rfl) (fun _ _ _ h => h) (Or.inl ⟨by rfl, ?_⟩) (by assumption) ?_; rotate_left; (focus (intro w' hSw; (try dsimp only at hSw); go_simp; try with_reducible rfl)); simp only [Act.put, List.setIfInBounds_toArray, List.set_cons_zero, List.set_cons_succ])
            (refine wpAnyZ_takeL (i := 8) (v := ?_) rfl (by kernel_rfl) (fun _ _ _ h => h) (Or.inl ⟨by rfl, ?_⟩) (by assumption) ?_; rotate_left; (focus (intro w' hSw; (try dsimp only at hSw); go_simp; try with_reducible rfl)); simp only [Act.put, List.setIfInBounds_toArray, List.set_cons_zero, List.set_cons_succ])
            (refine wpAnyZ_takeL (i := 10) (v := ?_) rfl (by kernel_rfl) (fun _ _ _ h => h) (Or.inl ⟨by rfl, ?_⟩) (by assumption) ?_; rotate_left; (focus (intro w' hSw; (try dsimp only at hSw); go_simp; try with_reducible rfl)); simp only [Act.put, List.setIfInBounds_toArray, List.set_cons_zero, List.set_cons_succ])
            (refine wpAnyZ_takeL (i := 12) (v := ?_) rfl (by kernel_rfl) (fun _ _ _ h => h) (Or.inl ⟨by rfl, ?_⟩) (by assumption) ?_; rotate_left; (focus (intro w' hSw; (try dsimp only at hSw); go_simp; try with_reducible rfl)); simp only [Act.put, List.setIfInBounds_toArray, List.set_cons_zero, List.set_cons_succ])
            refine wpAnyZ_ready (rs := [9]) (by kernel_rfl) (by simp) ?_
            refine AllReadyZ.consL rfl (fun K hK => ?_) AllReadyZ.nil
            go_simp
            go_at_call 74
            refine Calls.mono (legsIn_any cb ao n c (90000000013000) a1 x.san c1 x.sa y0 (by omega) (by omega) HW0.out.cur HW0.out.sails ) ?_
            rintro e y1 ⟨⟨v, k, F, hk4, rfl, ho⟩, hcN, hkN⟩
            dsimp only
            obtain ⟨av, cv, rfl, _, _, _⟩ := own_form ho
            have HW1 : Hid (WSit w y1 cb ao n c (90000000013000 + 60) ob x.san x.sa a1 a2 a3 x.ldn x.bkn c1 c2 c3 L C) := HW0.out.on hcb hcN hkN
            replace HBK : Hid (y1.ownsRow w.heap.size 131 13 (.slice a3 x.bkn c3) x.bkn (bkRow x.bk E x.bkn)) := hkN.own HBK.out (fun g hg e => by have e : g = cb := e; have := (HBK.out.lt g hg).1; omega)
            refine hK.out _ _ HW1.out.s (fun hS => ?_)
            clear hK K HW0 hcN hkN ho
            simp only [List.set_cons_zero, List.set_cons_succ]
            refine wpAnyZ_ready (rs := [11]) (by kernel_rfl) (by simp) ?_
            refine AllReadyZ.consL rfl (fun K hK => ?_) AllReadyZ.nil
            go_simp
            go_at_call 75
            refine Calls.mono (party_any cb ao n c (90000000013000 + 60) y1 (by omega) HW1.out.cur ) ?_
            rintro e y2 ⟨⟨x0, x1, x2, x3, x4, x5, rfl⟩, hcN, hkN⟩
            dsimp only
            have HW2 : Hid (WSit w y2 cb ao n c (90000000013000 + 60 + 40) ob x.san x.sa a1 a2 a3 x.ldn x.bkn c1 c2 c3 L C) := HW1.out.on hcb hcN hkN
            replace HBK : Hid (y2.ownsRow w.heap.size 131 13 (.slice a3 x.bkn c3) x.bkn (bkRow x.bk E x.bkn)) := hkN.own HBK.out (fun g hg e => by have e : g = cb := e; have := (HBK.out.lt g hg).1; omega)
            refine hK.out _ _ HW2.out.s (fun hS => ?_)
            clear hK K HW1 hcN hkN
            simp only [List.set_cons_zero, List.set_cons_succ]
            refine wpAnyZ_ready (rs := [13]) (by kernel_rfl) (by simp) ?_
            refine AllReadyZ.consL rfl (fun K hK => ?_) AllReadyZ.nil
            go_simp
            go_at_call 59
            refine Calls.mono (pick_any cb ao n c (90000000013000 + 60 + 40) 5 y2 (by omega) (by omega) (by omega) HW2.out.cur ) ?_
            rintro e y3 ⟨⟨q, rfl, hq⟩, hcN, hkN⟩
            dsimp only
            have HW3 : Hid (WSit w y3 cb ao n c (90000000013000 + 60 + 40 + 2) ob x.san x.sa a1 a2 a3 x.ldn x.bkn c1 c2 c3 L C) := HW2.out.on hcb hcN hkN
            replace HBK : Hid (y3.ownsRow w.heap.size 131 13 (.slice a3 x.bkn c3) x.bkn (bkRow x.bk E x.bkn)) := hkN.own HBK.out (fun g hg e => by have e : g = cb := e; have := (HBK.out.lt g hg).1; omega)
            have hwq : IntKind.i64.wrap (1 + (q : Int)) = 1 + (q : Int) := by rw [IntKind.wrap_i64]; omega
            refine hK.out _ _ HW3.out.s (fun hS => ?_)
            clear hK K HW2 hcN hkN
            simp only [List.set_cons_zero, List.set_cons_succ]
            (refine wpAnyZ_takeL (i := 14) (v := ?_) rfl (by kernel_rfl) (fun _ _ _ h => h) (Or.inl ⟨by rfl, ?_⟩) (by assumption) ?_; rotate_left; (focus (intro w' hSw; (try dsimp only at hSw); go_simp; try with_reducible rfl)); simp only [Act.put, List.setIfInBounds_toArray, List.set_cons_zero, List.set_cons_succ])
            (refine wpAnyZ_takeL (i := 15) (v := ?_) rfl (by kernel_rfl) (fun _ _ _ h => h) (Or.inl ⟨by rfl, ?_⟩) (by assumption) ?_; rotate_left; (focus (intro w' hSw; (try dsimp only at hSw); go_simp; try with_reducible rfl)); simp only [Act.put, List.setIfInBounds_toArray, List.set_cons_zero, List.set_cons_succ])
            refine wpAnyZ_ready (rs := [16]) (by kernel_rfl) (by simp) ?_
            refine AllReadyZ.consL rfl (fun K hK => ?_) AllReadyZ.nil
            refine step_buildSlice (by rfl) 64 131 1 #[(0, .tmp 56)] (by rfl) Tryz.underlying64 #[.int .i64 ((x.bkn : Int) + 1), .int .i64 500, .string ⟨#[65, 110, 110]⟩, .slice av k cv, .int .i64 x0, .int .i64 x1, .int .i64 x2, .int .i64 x3, .bool x4, .int .i64 x5, .int .i64 (1 + (q : Int)), .int .i64 0, .int .i64 0] (Eq.trans (congrArg (Program.builtSlice Tryz.prog 131 1) (show _ = [(0, Value.agg #[.int .i64 ((x.bkn : Int) + 1), .int .i64 500, .string ⟨#[65, 110, 110]⟩, .slice av k cv, .int .i64 x0, .int .i64 x1, .int .i64 x2, .int .i64 x3, .bool x4, .int .i64 x5, .int .i64 (1 + (q : Int)), .int .i64 0, .int .i64 0])] from by first | (simp [go_sem]; done) | rfl | kernel_rfl)) (builtBook ((x.bkn : Int) + 1) 500 x0 x1 x2 x3 x5 (1 + (q : Int)) 0 0 ⟨#[65, 110, 110]⟩ x4 av k cv)) ?_
            have HW4 : Hid (WSit w (y3.alloc (.cells #[.int .i64 ((x.bkn : Int) + 1), .int .i64 500, .string ⟨#[65, 110, 110]⟩, .slice av k cv, .int .i64 x0, .int .i64 x1, .int .i64 x2, .int .i64 x3, .bool x4, .int .i64 x5, .int .i64 (1 + (q : Int)), .int .i64 0, .int .i64 0] 131)) cb ao n c (90000000013000 + 60 + 40 + 2) ob x.san x.sa a1 a2 a3 x.ldn x.bkn c1 c2 c3 L C) := HW3.out.below (push (Below.refl _ _) _)
            replace HBK : Hid ((y3.alloc (.cells #[.int .i64 ((x.bkn : Int) + 1), .int .i64 500, .string ⟨#[65, 110, 110]⟩, .slice av k cv, .int .i64 x0, .int .i64 x1, .int .i64 x2, .int .i64 x3, .bool x4, .int .i64 x5, .int .i64 (1 + (q : Int)), .int .i64 0, .int .i64 0] 131)).ownsRow w.heap.size 131 13 (.slice a3 x.bkn c3) x.bkn (bkRow x.bk E x.bkn)) := own_below (push (Below.refl _ _) _) HBK.out
            have HNW : Hid (∀ j u, [.int .i64 ((x.bkn : Int) + 1), .int .i64 500, .string ⟨#[65, 110, 110]⟩, .slice av k cv, .int .i64 x0, .int .i64 x1, .int .i64 x2, .int .i64 x3, .bool x4, .int .i64 x5, .int .i64 (1 + (q : Int)), .int .i64 0, .int .i64 0][j]? = some u → (y3.alloc (.cells #[.int .i64 ((x.bkn : Int) + 1), .int .i64 500, .string ⟨#[65, 110, 110]⟩, .slice av k cv, .int .i64 x0, .int .i64 x1, .int .i64 x2, .int .i64 x3, .bool x4, .int .i64 x5, .int .i64 (1 + (q : Int)), .int .i64 0, .int .i64 0] 131)).cell? ((⟨y3.heap.size, 0, none⟩ : Addr).add j) = some u) := World.news_of_block (cs := #[.int .i64 ((x.bkn : Int) + 1), .int .i64 500, .string ⟨#[65, 110, 110]⟩, .slice av k cv, .int .i64 x0, .int .i64 x1, .int .i64 x2, .int .i64 x3, .bool x4, .int .i64 x5, .int .i64 (1 + (q : Int)), .int .i64 0, .int .i64 0]) (t := 131) (fr := (0, 0)) (heap_alloc_new y3 _)
            refine hK.out _ _ HW4.out.s (fun hS => ?_)
            clear hK K HW3
            simp only [Act.put, List.setIfInBounds_toArray, List.set_cons_zero, List.set_cons_succ]
            generalize y3.alloc (.cells #[.int .i64 ((x.bkn : Int) + 1), .int .i64 500, .string ⟨#[65, 110, 110]⟩, .slice av k cv, .int .i64 x0, .int .i64 x1, .int .i64 x2, .int .i64 x3, .bool x4, .int .i64 x5, .int .i64 (1 + (q : Int)), .int .i64 0, .int .i64 0] 131) = y4 at HW4 HBK HNW hS ⊢
            refine wpAnyZ_ready (rs := [17]) (by kernel_rfl) (by simp) ?_
            refine AllReadyZ.consL rfl (fun K hK => ?_) AllReadyZ.nil
            refine step_append_lies _ (by rfl) (.tmp 42) (.tmp 57) 64 (by rfl) w.heap.size 131 r0 (.agg #[.int .i64 0, .int .i64 0, .string ⟨#[]⟩, .slice none 0 0, .int .i64 0, .int .i64 0, .int .i64 0, .int .i64 0, .bool false, .int .i64 0, .int .i64 0, .int .i64 0, .int .i64 0]) 13 128 Tryz.underlying64 ri rz0 rz1 rz2 rfl (by decide) _ x.bkn (bkRow x.bk E x.bkn) (by rfl) HBK.out ⟨y3.heap.size, 0, none⟩ 1 1 [.int .i64 ((x.bkn : Int) + 1), .int .i64 500, .string ⟨#[65, 110, 110]⟩, .slice av k cv, .int .i64 x0, .int .i64 x1, .int .i64 x2, .int .i64 x3, .bool x4, .int .i64 x5, .int .i64 (1 + (q : Int)), .int .i64 0, .int .i64 0] (by rfl) (by rfl) HNW.out (by intro u hu; simp at hu; rcases hu with rfl | rfl | rfl | rfl | rfl | rfl | rfl | rfl | rfl | rfl | rfl | rfl | rfl <;> rfl) (by decide) (by unfold maxLen; omega) (by omega) HW4.out.kept.size _ rfl ?_
            intro g2 cap2 y5 ho5 hg5 hat5 hlt5
            have HW5 : Hid (WSit w y5 cb ao n c (90000000013000 + 60 + 40 + 2) ob x.san x.sa a1 a2 a3 x.ldn x.bkn c1 c2 c3 L C) := HW4.out.far hcb HL.out (kept_row hg5) (fun b e => ⟨(HBK.out.lt b e).1, by obtain ⟨cs, e2⟩ := own_blockE HBK.out b e; exact ⟨cs, _, e2, by decide, by decide, by decide, by decide⟩⟩)
            refine hK.out _ _ HW5.out.s (fun hS => ?_)
            clear hK K HW4 HBK HNW ho5 hg5 hat5 hlt5
            simp only [Act.put, List.setIfInBounds_toArray, List.set_cons_zero, List.set_cons_succ]
            (refine wpAnyZ_takeL (i := 18) (v := ?_) rfl (by kernel_rfl) (fun _ _ _ h => h) (Or.inl ⟨by rfl, ?_⟩) (by assumption) ?_; rotate_left; (focus (intro w' hSw; (try dsimp only at hSw); go_simp; try with_reducible rfl)); simp only [Act.put, List.setIfInBounds_toArray, List.set_cons_zero, List.set_cons_succ])
            have z2 := blk_cell HW5.out.box 2 _ rfl
            have zf2 := blk_free HW5.out.box 2
            refine wpAnyZ_ready (rs := [19]) (by kernel_rfl) (by simp) ?_
            refine AllReadyZ.lastL rfl (fun K hK => ?_)
            go_simp
            refine hK.out _ _ ?_
            clear hK K
            refine wpAnyZ_done (by kernel_rfl) ?_ _
            go_wp2
            go_meet
            exact ⟨x.san, x.sa, a1, a2, some ⟨g2, 0, none⟩, x.ldn, x.bkn + 1, c1, c2, cap2, L, C, hx1, by omega, (HW5.out.put2 hcb HL.out _ _ _).more (by omega)⟩
          · have d0 : ((r : Int) == 0) = false := by simpa using (show ¬ (r : Int) = 0 by omega)
            by_cases e1 : r = 1
            · subst e1
              by_cases hl0 : 0 < x.ldn
              · obtain ⟨s0, si, sz0, sz1, sz2⟩ := info_parts Tryz.infoSeat
                have i0' : (0 : Int) < (x.ldn : Int) := by omega
                have k1 := blk_cell HQ.out.box 1 _ rfl
                obtain ⟨g, hga, hg1, hg2⟩ := own_addr HQ.out.own.ld.row (by omega)
                subst hga
                obtain ⟨ad, cd, hD, hd1, hd2, hd3⟩ := own_form (HQ.out.own.ld.se 0 hl0)
                have HSE : Hid (u3.drew.ownsRow w.heap.size 138 2 (.slice ad (x.ld 0).sen cd) (x.ld 0).sen (seatList (x.ld 0).se (x.ld 0).sen)) := hD ▸ ((HQ.out.own.below (Below.refl _ _).drew).ld.se 0 hl0)
                have HSN : Hid ((x.ld 0).sen ≤ 1048576) := (hx3.2.1.2 0 hl0).2.2
                obtain ⟨csl, hcl⟩ := own_blockE HQ.out.own.ld.row g rfl
                have HLD : Hid (∀ z : World, z.heap[g]? = u3.heap[g]? → z.cell? ⟨g, 2, none⟩ = some (.slice ad (x.ld 0).sen cd)) := fun z hz => by
                  have h := own_cell HQ.out.own.ld.row 2 (by omega) rfl
                  rw [recCell_at 3 _ 0 2 (by decide)] at h
                  rw [← hD]
                  exact (cell_same hz).trans h
                have hgl : w.heap.size ≤ g := hg1
                go_upto_region 16 with fail
                have HW0 : Hid (WSit w u3.drew cb ao n c (90000000013000) ob x.san x.sa a1 (some ⟨g, 0, none⟩) a3 x.ldn x.bkn c1 c2 c3 L C) := HQ.out.weak.below (Below.refl _ _).drew
                have HGB : Hid (u3.drew.heap[g]? = some (.cells csl 136 (0, 0))) := hcl
                refine wp_region_z 12 13 (fun w' => w'.cell? ⟨ob, 1, none⟩ = some (.slice (some ⟨g, 0, none⟩) x.ldn c2) ∧ w'.cell? ⟨g, 2, none⟩ = some (.slice ad (x.ld 0).sen cd)) rfl (by kernel_rfl) ⟨HW0.out.s.2.1, HLD.out _ rfl⟩ (fun hS => ?_)
                replace HLD : Hid (∀ z : World, z.heap[g]? = some (.cells csl 136 (0, 0)) → z.cell? ⟨g, 2, none⟩ = some (.slice ad (x.ld 0).sen cd)) := fun z hz => HLD.out z (hz.trans hcl.symm)
                clear HQ hcl k1 hD hd1 hd2 hd3
                simp only [List.replicate_succ, List.replicate_zero]
                generalize u3.drew = y0 at HW0 HSE HGB hS ⊢
                (refine wpAnyZ_takeL (i := 0) (v := ?_) rfl (by kernel_rfl) (fun _ _ _ h => h) (Or.inl ⟨by rfl, ?_⟩) (by assumption) ?_; rotate_left; (focus (intro w' hSw; (try dsimp only at hSw); go_simp; try with_reducible rfl)); simp only [Act.put, List.setIfInBounds_toArray, List.set_cons_zero, List.set_cons_succ])
                (refine wpAnyZ_takeL (i := 1) (v := ?_) rfl (by kernel_rfl) (fun _ _ _ h => h) (Or.inl ⟨by rfl, ?_⟩) (by assumption) ?_; rotate_left; (focus (intro w' hSw; (try dsimp only at hSw); go_simp; try with_reducible rfl)); simp only [Act.put, List.setIfInBounds_toArray, List.set_cons_zero, List.set_cons_succ])
                (refine wpAnyZ_takeL (i := 2) (v := ?_) rfl (by kernel_rfl) (fun _ _ _ h => h) (Or.inl ⟨by rfl, ?_⟩) (by assumption) ?_; rotate_left; (focus (intro w' hSw; (try dsimp only at hSw); go_simp; try with_reducible rfl)); simp only [Act.put, List.setIfInBounds_toArray, List.set_cons_zero, List.set_cons_succ])
                (refine wpAnyZ_takeL (i := 3) (v := ?_) rfl (by kernel_rfl) (fun _ _ _ h => h) (Or.inl ⟨by rfl, ?_⟩) (by assumption) ?_; rotate_left; (focus (intro w' hSw; (try dsimp only at hSw); go_simp; try with_reducible rfl)); simp only [Act.put, List.setIfInBounds_toArray, List.set_cons_zero, List.set_cons_succ])
                (refine wpAnyZ_takeL (i := 4) (v := ?_) rfl (by kernel_rfl) (fun _ _ _ h => h) (Or.inl ⟨by rfl, ?_⟩) (by assumption) ?_; rotate_left; (focus (intro w' hSw; (try dsimp only at hSw); go_simp; try with_reducible rfl)); simp only [Act.put, List.setIfInBounds_toArray, List.set_cons_zero, List.set_cons_succ])
                (refine wpAnyZ_takeL (i := 5) (v := ?_) rfl (by kernel_rfl) (fun _ _ _ h => h) (Or.inl ⟨by rfl, ?_⟩) (by assumption) ?_; rotate_left; (focus (intro w' hSw; (try dsimp only at hSw); go_simp; try with_reducible rfl)); simp only [Act.put, List.setIfInBounds_toArray, List.set_cons_zero, List.set_cons_succ])
                (refine wpAnyZ_takeL (i := 6) (v := ?_) rfl (by kernel_rfl) (fun _ _ _ h => h) (Or.inl ⟨by rfl, ?_⟩) (by assumption) ?_; rotate_left; (focus (intro w' hSw; (try dsimp only at hSw); go_simp; try with_reducible rfl)); simp only [Act.put, List.setIfInBounds_toArray, List.set_cons_zero, List.set_cons_succ])
                (refine wpAnyZ_takeL (i := 7) (v := ?_) rfl (by kernel_rfl) (fun _ _ _ h => h) (Or.inl ⟨by rfl, ?_⟩) (by assumption) ?_; rotate_left; (focus (intro w' hSw; (try dsimp only at hSw); go_simp; try with_reducible rfl)); simp only [Act.put, List.setIfInBounds_toArray, List.set_cons_zero, List.set_cons_succ])
                refine wpAnyZ_ready (rs := [8]) (by kernel_rfl) (by simp) ?_
                refine AllReadyZ.consL rfl (fun K hK => ?_) AllReadyZ.nil
                go_simp
                have HW1 : Hid (WSit w (y0.alloc (.cells #[.int .i64 700, .int .i64 1] 138)) cb ao n c (90000000013000) ob x.san x.sa a1 (some ⟨g, 0, none⟩) a3 x.ldn x.bkn c1 c2 c3 L C) := HW0.out.below (push (Below.refl _ _) _)
                replace HSE : Hid ((y0.alloc (.cells #[.int .i64 700, .int .i64 1] 138)).ownsRow w.heap.size 138 2 (.slice ad (x.ld 0).sen cd) (x.ld 0).sen (seatList (x.ld 0).se (x.ld 0).sen)) := own_below (push (Below.refl _ _) _) HSE.out
                have HNW : Hid (∀ j u, [Value.int .i64 700, .int .i64 1][j]? = some u → (y0.alloc (.cells #[.int .i64 700, .int .i64 1] 138)).cell? ((⟨y0.heap.size, 0, none⟩ : Addr).add j) = some u) := World.news_of_block (cs := #[.int .i64 700, .int .i64 1]) (t := 138) (fr := (0, 0)) (heap_alloc_new y0 _)
                replace HGB : Hid ((y0.alloc (.cells #[.int .i64 700, .int .i64 1] 138)).heap[g]? = some (.cells csl 136 (0, 0))) := blk_alloc HGB.out _
                refine hK.out _ _ ⟨HW1.out.s.2.1, HLD.out _ HGB.out⟩ (fun hS => ?_)
                clear hK K HW0
                simp only [List.set_cons_zero, List.set_cons_succ]
                generalize y0.alloc (.cells #[.int .i64 700, .int .i64 1] 138) = y1 at HW1 HSE HNW HGB hS ⊢
                refine wpAnyZ_ready (rs := [9]) (by kernel_rfl) (by simp) ?_
                refine AllReadyZ.consL rfl (fun K hK => ?_) AllReadyZ.nil
                have hsen := HSN.out
                refine step_append_lies _ (by rfl) (.tmp 72) (.tmp 74) 132 (by rfl) w.heap.size 138 s0 (.agg #[.int .i64 0, .int .i64 0]) 2 16 Tryz.underlying132 si sz0 sz1 sz2 rfl (by decide) _ (x.ld 0).sen (seatList (x.ld 0).se (x.ld 0).sen) (by rfl) HSE.out ⟨y0.heap.size, 0, none⟩ 1 1 [.int .i64 700, .int .i64 1] (by rfl) (by rfl) HNW.out (by intro u hu; simp at hu; rcases hu with rfl | rfl <;> rfl) (by decide) (by unfold maxLen; omega) (by omega) HW1.out.kept.size _ rfl ?_
                intro g2 cap2 y2 ho2 hg2 hat2 hlt2
                have HW2 : Hid (WSit w y2 cb ao n c (90000000013000) ob x.san x.sa a1 (some ⟨g, 0, none⟩) a3 x.ldn x.bkn c1 c2 c3 L C) := HW1.out.far hcb HL.out (kept_row hg2) (fun b e => ⟨(HSE.out.lt b e).1, by obtain ⟨cs, e2⟩ := own_blockE HSE.out b e; exact ⟨cs, _, e2, by decide, by decide, by decide, by decide⟩⟩)
                replace HGB : Hid (y2.heap[g]? = some (.cells csl 136 (0, 0))) := (kept_row hg2).blk HGB.out (fun e => by obtain ⟨cs, e2⟩ := own_blockE HSE.out g e; rw [HGB.out] at e2; simp at e2)
                refine hK.out _ _ ⟨HW2.out.s.2.1, HLD.out _ HGB.out⟩ (fun hS => ?_)
                clear hK K HW1 HSE HNW ho2 hg2 hat2 hlt2
                simp only [Act.put, List.setIfInBounds_toArray, List.set_cons_zero, List.set_cons_succ]
                (refine wpAnyZ_takeL (i := 10) (v := ?_) rfl (by kernel_rfl) (fun _ _ _ h => h) (Or.inl ⟨by rfl, ?_⟩) (by assumption) ?_; rotate_left; (focus (intro w' hSw; (try dsimp only at hSw); go_simp; try with_reducible rfl)); simp only [Act.put, List.setIfInBounds_toArray, List.set_cons_zero, List.set_cons_succ])
                (refine wpAnyZ_takeL (i := 11) (v := ?_) rfl (by kernel_rfl) (fun _ _ _ h => h) (Or.inl ⟨by rfl, ?_⟩) (by assumption) ?_; rotate_left; (focus (intro w' hSw; (try dsimp only at hSw); go_simp; try with_reducible rfl)); simp only [Act.put, List.setIfInBounds_toArray, List.set_cons_zero, List.set_cons_succ])
                have z2 := HLD.out _ HGB.out
                have zf2 := blk_free HGB.out 2
                refine wpAnyZ_ready (rs := [12]) (by kernel_rfl) (by simp) ?_
                refine AllReadyZ.lastL rfl (fun K hK => ?_)
                go_simp
                refine hK.out _ _ ?_
                clear hK K
                refine wpAnyZ_done (by kernel_rfl) ?_ _
                go_wp2
                go_meet
                exact ⟨x.san, x.sa, a1, some ⟨g, 0, none⟩, a3, x.ldn, x.bkn, c1, c2, c3, L, C, hx1, by omega, (HW2.out.far hcb HL.out ((Kept.refl y2 (fun b => b = g)).set (a := ⟨g, 2, none⟩) rfl _) (fun b e => by have e : b = g := e; subst e; exact ⟨hgl, _, _, HGB.out, by decide, by decide, by decide, by decide⟩)).more (by omega)⟩
              · have i0' : ¬ (0 : Int) < (x.ldn : Int) := by omega
                have k1 := blk_cell HQ.out.box 1 _ rfl
                go_wp2
                go_meet
                exact ⟨x.san, x.sa, a1, a2, a3, x.ldn, x.bkn, c1, c2, c3, L, C, hx1, by omega, HQ.out.weak.more (by omega)⟩
            · have d1 : ((r : Int) == 1) = false := by simpa using (show ¬ (r : Int) = 1 by omega)
              by_cases e2 : r = 2
              · subst e2
                by_cases hb0' : 0 < x.bkn
                · have i0' : (0 : Int) < (x.bkn : Int) := by omega
                  have k2 := blk_cell HQ.out.box 2 _ rfl
                  obtain ⟨g, hga, hg1, hg2⟩ := own_addr HQ.out.own.bk.row (by omega)
                  subst hga
                  obtain ⟨csl, hcl⟩ := own_blockE HQ.out.own.bk.row g rfl
                  have HCE : Hid (u3.cell? ⟨g, 11, none⟩ = some (.int .i64 (x.bk 0).unt)) := by
                    have h := own_cell HQ.out.own.bk.row 11 (by omega) rfl
                    rw [recCell_at 13 _ 0 11 (by decide)] at h
                    exact h
                  have hgl : w.heap.size ≤ g := hg1
                  go_upto_region 19 with fail
                  have HW0 : Hid (WSit w u3.drew cb ao n c (90000000013000) ob x.san x.sa a1 a2 (some ⟨g, 0, none⟩) x.ldn x.bkn c1 c2 c3 L C) := HQ.out.weak.below (Below.refl _ _).drew
                  have HGB : Hid (u3.drew.heap[g]? = some (.cells csl 131 (0, 0))) := hcl
                  have HCL' : Hid (∀ z : World, z.heap[g]? = some (.cells csl 131 (0, 0)) → z.cell? ⟨g, 11, none⟩ = some (.int .i64 (x.bk 0).unt)) := fun z hz => (cell_same (hz.trans hcl.symm)).trans HCE.out
                  refine wp_region_z 7 8 (fun w' => w'.cell? ⟨ob, 2, none⟩ = some (.slice (some ⟨g, 0, none⟩) x.bkn c3) ∧ True) rfl (by kernel_rfl) ⟨HW0.out.s.2.2, trivial⟩ (fun hS => ?_)
                  clear HQ hcl k2 HCE
                  simp only [List.replicate_succ, List.replicate_zero]
                  generalize u3.drew = y0 at HW0 HGB hS ⊢
                  (refine wpAnyZ_takeL (i := 0) (v := ?_) rfl (by kernel_rfl) (fun _ _ _ h => h) (Or.inl ⟨by rfl, ?_⟩) (by assumption) ?_; rotate_left; (focus (intro w' hSw; (try dsimp only at hSw); go_simp; try with_reducible rfl)); simp only [Act.put, List.setIfInBounds_toArray, List.set_cons_zero, List.set_cons_succ])
                  (refine wpAnyZ_takeL (i := 1) (v := ?_) rfl (by kernel_rfl) (fun _ _ _ h => h) (Or.inl ⟨by rfl, ?_⟩) (by assumption) ?_; rotate_left; (focus (intro w' hSw; (try dsimp only at hSw); go_simp; try with_reducible rfl)); simp only [Act.put, List.setIfInBounds_toArray, List.set_cons_zero, List.set_cons_succ])
                  (refine wpAnyZ_takeL (i := 2) (v := ?_) rfl (by kernel_rfl) (fun _ _ _ h => h) (Or.inl ⟨by rfl, ?_⟩) (by assumption) ?_; rotate_left; (focus (intro w' hSw; (try dsimp only at hSw); go_simp; try with_reducible rfl)); simp only [Act.put, List.setIfInBounds_toArray, List.set_cons_zero, List.set_cons_succ])
                  refine wpAnyZ_ready (rs := [3]) (by kernel_rfl) (by simp) ?_
                  refine AllReadyZ.consL rfl (fun K hK => ?_) AllReadyZ.nil
                  go_simp
                  have HW1 : Hid (WSit w (y0.alloc (.cells #[.int .i64 (-1), .int .i64 0, .int .i64 1, .int .i64 10001] 3)) cb ao n c (90000000013000) ob x.san x.sa a1 a2 (some ⟨g, 0, none⟩) x.ldn x.bkn c1 c2 c3 L C) := HW0.out.below (push (Below.refl _ _) _)
                  replace HGB : Hid ((y0.alloc (.cells #[.int .i64 (-1), .int .i64 0, .int .i64 1, .int .i64 10001] 3)).heap[g]? = some (.cells csl 131 (0, 0))) := blk_alloc HGB.out _
                  have HBL : Hid ((y0.alloc (.cells #[.int .i64 (-1), .int .i64 0, .int .i64 1, .int .i64 10001] 3)).heap[y0.heap.size]? = some (.cells #[.int .i64 (-1), .int .i64 0, .int .i64 1, .int .i64 10001] 3 (0, 0))) := heap_alloc_new y0 _
                  have hyl : cb < y0.heap.size := HW0.out.cur.lt
                  refine hK.out _ _ ⟨HW1.out.s.2.2, trivial⟩ (fun hS => ?_)
                  clear hK K HW0
                  simp only [List.set_cons_zero, List.set_cons_succ]
                  generalize (y0.alloc (.cells #[.int .i64 (-1), .int .i64 0, .int .i64 1, .int .i64 10001] 3)) = y1 at HW1 HGB HBL hS ⊢
                  generalize y0.heap.size = bl at HBL hyl ⊢
                  refine wpAnyZ_ready (rs := [4]) (by kernel_rfl) (by simp) ?_
                  refine AllReadyZ.consL rfl (fun K hK => ?_) AllReadyZ.nil
                  go_simp
                  go_at_call 73
                  refine Calls.mono (amongL cb ao n c (90000000013000) 4 [-1, 0, 1, 10001] y1 rfl (by omega) (by omega) (by omega) HW1.out.cur bl HBL.out (by omega) ) ?_
                  rintro e y2 ⟨⟨q, rfl⟩, hcN, hkN⟩
                  dsimp only
                  have HW2 : Hid (WSit w y2 cb ao n c (90000000013000 + 2) ob x.san x.sa a1 a2 (some ⟨g, 0, none⟩) x.ldn x.bkn c1 c2 c3 L C) := HW1.out.on hcb hcN hkN
                  replace HGB : Hid (y2.heap[g]? = some (.cells csl 131 (0, 0))) := hkN.blk HGB.out (show ¬ g = cb by omega)
                  refine hK.out _ _ ⟨HW2.out.s.2.2, trivial⟩ (fun hS => ?_)
                  clear hK K HW1 hcN hkN
                  simp only [List.set_cons_zero, List.set_cons_succ]
                  (refine wpAnyZ_takeL (i := 5) (v := ?_) rfl (by kernel_rfl) (fun _ _ _ h => h) (Or.inl ⟨by rfl, ?_⟩) (by assumption) ?_; rotate_left; (focus (intro w' hSw; (try dsimp only at hSw); go_simp; try with_reducible rfl)); simp only [Act.put, List.setIfInBounds_toArray, List.set_cons_zero, List.set_cons_succ])
                  (refine wpAnyZ_takeL (i := 6) (v := ?_) rfl (by kernel_rfl) (fun _ _ _ h => h) (Or.inl ⟨by rfl, ?_⟩) (by assumption) ?_; rotate_left; (focus (intro w' hSw; (try dsimp only at hSw); go_simp; try with_reducible rfl)); simp only [Act.put, List.setIfInBounds_toArray, List.set_cons_zero, List.set_cons_succ])
                  have z2 := HCL'.out _ HGB.out
                  have zf2 := blk_free HGB.out 11
                  refine wpAnyZ_ready (rs := [7]) (by kernel_rfl) (by simp) ?_
                  refine AllReadyZ.lastL rfl (fun K hK => ?_)
                  go_simp
                  refine hK.out _ _ ?_
                  clear hK K
                  refine wpAnyZ_done (by kernel_rfl) ?_ _
                  go_wp2
                  go_meet
                  exact ⟨x.san, x.sa, a1, a2, some ⟨g, 0, none⟩, x.ldn, x.bkn, c1, c2, c3, L, C, hx1, by omega, (HW2.out.far hcb HL.out ((Kept.refl y2 (fun b => b = g)).set (a := ⟨g, 11, none⟩) rfl _) (fun b e => by have e : b = g := e; subst e; exact ⟨hgl, _, _, HGB.out, by decide, by decide, by decide, by decide⟩)).more (by omega)⟩
                · have i0' : ¬ (0 : Int) < (x.bkn : Int) := by omega
                  have k2 := blk_cell HQ.out.box 2 _ rfl
                  go_wp2
                  go_meet
                  exact ⟨x.san, x.sa, a1, a2, a3, x.ldn, x.bkn, c1, c2, c3, L, C, hx1, by omega, HQ.out.weak.more (by omega)⟩
              · have d2 : ((r : Int) == 2) = false := by simpa using (show ¬ (r : Int) = 2 by omega)
                by_cases e3 : r = 3
                · subst e3
                  by_cases hb0' : 0 < x.bkn
                  · have i0' : (0 : Int) < (x.bkn : Int) := by omega
                    have k2 := blk_cell HQ.out.box 2 _ rfl
                    obtain ⟨g, hga, hg1, hg2⟩ := own_addr HQ.out.own.bk.row (by omega)
                    subst hga
                    obtain ⟨csl, hcl⟩ := own_blockE HQ.out.own.bk.row g rfl
                    have HCE : Hid (u3.cell? ⟨g, 10, none⟩ = some (.int .i64 (x.bk 0).state)) := by
                      have h := own_cell HQ.out.own.bk.row 10 (by omega) rfl
                      rw [recCell_at 13 _ 0 10 (by decide)] at h
                      exact h
                    have hgl : w.heap.size ≤ g := hg1
                    go_upto_region 22 with fail
                    have HW0 : Hid (WSit w u3.drew cb ao n c (90000000013000) ob x.san x.sa a1 a2 (some ⟨g, 0, none⟩) x.ldn x.bkn c1 c2 c3 L C) := HQ.out.weak.below (Below.refl _ _).drew
                    have HGB : Hid (u3.drew.heap[g]? = some (.cells csl 131 (0, 0))) := hcl
                    have HCL' : Hid (∀ z : World, z.heap[g]? = some (.cells csl 131 (0, 0)) → z.cell? ⟨g, 10, none⟩ = some (.int .i64 (x.bk 0).state)) := fun z hz => (cell_same (hz.trans hcl.symm)).trans HCE.out
                    refine wp_region_z 6 7 (fun w' => w'.cell? ⟨ob, 2, none⟩ = some (.slice (some ⟨g, 0, none⟩) x.bkn c3) ∧ True) rfl (by kernel_rfl) ⟨HW0.out.s.2.2, trivial⟩ (fun hS => ?_)
                    clear HQ hcl k2 HCE
                    simp only [List.replicate_succ, List.replicate_zero]
                    generalize u3.drew = y0 at HW0 HGB hS ⊢
                    (refine wpAnyZ_takeL (i := 0) (v := ?_) rfl (by kernel_rfl) (fun _ _ _ h => h) (Or.inl ⟨by rfl, ?_⟩) (by assumption) ?_; rotate_left; (focus (intro w' hSw; (try dsimp only at hSw); go_simp; try with_reducible rfl)); simp only [Act.put, List.setIfInBounds_toArray, List.set_cons_zero, List.set_cons_succ])
                    (refine wpAnyZ_takeL (i := 1) (v := ?_) rfl (by kernel_rfl) (fun _ _ _ h => h) (Or.inl ⟨by rfl, ?_⟩) (by assumption) ?_; rotate_left; (focus (intro w' hSw; (try dsimp only at hSw); go_simp; try with_reducible rfl)); simp only [Act.put, List.setIfInBounds_toArray, List.set_cons_zero, List.set_cons_succ])
                    (refine wpAnyZ_takeL (i := 2) (v := ?_) rfl (by kernel_rfl) (fun _ _ _ h => h) (Or.inl ⟨by rfl, ?_⟩) (by assumption) ?_; rotate_left; (focus (intro w' hSw; (try dsimp only at hSw); go_simp; try with_reducible rfl)); simp only [Act.put, List.setIfInBounds_toArray, List.set_cons_zero, List.set_cons_succ])
                    refine wpAnyZ_ready (rs := [3]) (by kernel_rfl) (by simp) ?_
                    refine AllReadyZ.consL rfl (fun K hK => ?_) AllReadyZ.nil
                    go_simp
                    go_at_call 59
                    refine Calls.mono (pick_any cb ao n c (90000000013000) 6 y0 (by omega) (by omega) (by omega) HW0.out.cur ) ?_
                    rintro e y2 ⟨⟨q, rfl, hq⟩, hcN, hkN⟩
                    dsimp only
                    have HW2 : Hid (WSit w y2 cb ao n c (90000000013000 + 2) ob x.san x.sa a1 a2 (some ⟨g, 0, none⟩) x.ldn x.bkn c1 c2 c3 L C) := HW0.out.on hcb hcN hkN
                    replace HGB : Hid (y2.heap[g]? = some (.cells csl 131 (0, 0))) := hkN.blk HGB.out (show ¬ g = cb by omega)
                    refine hK.out _ _ ⟨HW2.out.s.2.2, trivial⟩ (fun hS => ?_)
                    clear hK K HW0 hcN hkN
                    simp only [List.set_cons_zero, List.set_cons_succ]
                    (refine wpAnyZ_takeL (i := 4) (v := ?_) rfl (by kernel_rfl) (fun _ _ _ h => h) (Or.inl ⟨by rfl, ?_⟩) (by assumption) ?_; rotate_left; (focus (intro w' hSw; (try dsimp only at hSw); go_simp; try with_reducible rfl)); simp only [Act.put, List.setIfInBounds_toArray, List.set_cons_zero, List.set_cons_succ])
                    (refine wpAnyZ_takeL (i := 5) (v := ?_) rfl (by kernel_rfl) (fun _ _ _ h => h) (Or.inl ⟨by rfl, ?_⟩) (by assumption) ?_; rotate_left; (focus (intro w' hSw; (try dsimp only at hSw); go_simp; try with_reducible rfl)); simp only [Act.put, List.setIfInBounds_toArray, List.set_cons_zero, List.set_cons_succ])
                    have z2 := HCL'.out _ HGB.out
                    have zf2 := blk_free HGB.out 10
                    refine wpAnyZ_ready (rs := [6]) (by kernel_rfl) (by simp) ?_
                    refine AllReadyZ.lastL rfl (fun K hK => ?_)
                    go_simp
                    refine hK.out _ _ ?_
                    clear hK K
                    refine wpAnyZ_done (by kernel_rfl) ?_ _
                    go_wp2
                    go_meet
                    exact ⟨x.san, x.sa, a1, a2, some ⟨g, 0, none⟩, x.ldn, x.bkn, c1, c2, c3, L, C, hx1, by omega, (HW2.out.far hcb HL.out ((Kept.refl y2 (fun b => b = g)).set (a := ⟨g, 10, none⟩) rfl _) (fun b e => by have e : b = g := e; subst e; exact ⟨hgl, _, _, HGB.out, by decide, by decide, by decide, by decide⟩)).more (by omega)⟩
                  · have i0' : ¬ (0 : Int) < (x.bkn : Int) := by omega
                    have k2 := blk_cell HQ.out.box 2 _ rfl
                    go_wp2
                    go_meet
                    exact ⟨x.san, x.sa, a1, a2, a3, x.ldn, x.bkn, c1, c2, c3, L, C, hx1, by omega, HQ.out.weak.more (by omega)⟩
                · have d3 : ((r : Int) == 3) = false := by simpa using (show ¬ (r : Int) = 3 by omega)
                  go_wp2
                  go_meet
                  exact ⟨x.san, x.sa, a1, a2, a3, x.ldn, x.bkn, c1, c2, c3, L, C, hx1, by omega, HQ.out.weak.more (by omega)⟩
        case rest =>
          obtain ⟨N, S, a1, a2, a3, m2, m3, c1, c2, c3, L, C, hN, hm3, HE⟩ := hcut
          clear HQ
          have k0 := blk_cell HE.out.box 0 _ rfl
          have k1 := blk_cell HE.out.box 1 _ rfl
          have k2 := blk_cell HE.out.box 2 _ rfl
          have r0 := blk_cell HE.out.res 0 _ rfl
          have r1 := blk_cell HE.out.res 1 _ rfl
          have r2 := blk_cell HE.out.res 2 _ rfl
          have f0 := blk_free HE.out.res 0
          have f1 := blk_free HE.out.res 1
          have f2 := blk_free HE.out.res 2
          go_wp2
          have HX := HE.out.fin hcb HL.out (.slice a1 N c1) (.slice a2 m2 c2) (.slice a3 m3 c3)
          have z0 := blk_cell HX.2.2.1 0 _ rfl
          have z1 := blk_cell HX.2.2.1 1 _ rfl
          have z2 := blk_cell HX.2.2.1 2 _ rfl
          clear k0 k1 k2 r0 r1 r2 f0 f1 f2
          exact bodyPost_ret (v := .agg #[.slice a1 N c1, .slice a2 m2 c2, .slice a3 m3 c3]) (by simp [results, Tryz.results30, go_sem, z0, z1, z2]) rfl ⟨⟨N, S, a1, a2, a3, m2, m3, c1, c2, c3, L, C, rfl, hN, hm3, HX.2.2.2⟩, HX.1.more (by omega), HX.2.1⟩

end Go.Proofs.YtfallpinmhbemaaGreatDoor

namespace Go.Proofs.YtfallpinmhbemaaGreatDoor
open Go.RowKit

theorem curX_newT {w : World} {ao : Option Addr} {n c : Nat} (h : BytesAt w ao n) : CurX (w.alloc (.cells #[.slice ao n c, .int .i64 0, .int .u64 0] 60)) w.heap.size ao n c 0 :=
  ⟨0, 0, Nat.le_refl _, heap_alloc_new w _, (cur_new (c := c) h).2⟩
theorem codeLow_ofT {w : World} {cb n c a : Nat} {ao : Option Addr} (h : CurX w cb ao n c a) : CodeLow w ao n := h.is.code_lt
theorem op_put {w u : World} {B r : Nat} {cs : Array Value} (hr : B ≤ r) {k : Nat} {v : Value} {m : Nat} {xs : List Value} (h : Below B w u ∧ u.heap[r]? = some (.cells cs 27 (0, 0)) ∧ u.ownsRow k 3 1 v m xs) (i : Nat) (z : Value) (cs' : Array Value) (he : cs.setIfInBounds i z = cs') :
    Below B w (u.setCell ⟨r, i, none⟩ z) ∧ (u.setCell ⟨r, i, none⟩ z).heap[r]? = some (.cells cs' 27 (0, 0)) ∧ (u.setCell ⟨r, i, none⟩ z).ownsRow k 3 1 v m xs :=
  ⟨h.1.setCell (p := ⟨r, i, none⟩) hr z, by rw [← he]; exact blk_set h.2.1 i z, kept_own h.2.2 h.2.1 (by decide) i z⟩
theorem op_end {w u : World} {B r : Nat} (hr : B ≤ r) {k : Nat} {lv : Value} {m : Nat} {xs : List Value} (y : OpD) (h : Below B w u) (h2 : u.heap[r]? = some (.cells #[.int .i64 0, .string ⟨#[]⟩, .int .i64 0, .slice none 0 0, .int .i64 0, .int .i64 0, .int .i64 0, .int .i64 0, .bool false, .int .i64 0, .int .i64 0, .int .i64 0] 27 (0, 0))) (h3 : u.ownsRow k 3 1 lv m xs) :
    Below B w (endO u r y lv) ∧ (endO u r y lv).heap[r]? = some (.cells (opCells y lv) 27 (0, 0)) ∧ (endO u r y lv).ownsRow k 3 1 lv m xs := by
  have p0 : Below B w u ∧ u.heap[r]? = some (.cells #[.int .i64 0, .string ⟨#[]⟩, .int .i64 0, .slice none 0 0, .int .i64 0, .int .i64 0, .int .i64 0, .int .i64 0, .bool false, .int .i64 0, .int .i64 0, .int .i64 0] 27 (0, 0)) ∧ u.ownsRow k 3 1 lv m xs := ⟨h, h2, h3⟩
  have p1 := op_put hr p0 0 (.int .i64 y.kind) #[.int .i64 y.kind, .string ⟨#[]⟩, .int .i64 0, .slice none 0 0, .int .i64 0, .int .i64 0, .int .i64 0, .int .i64 0, .bool false, .int .i64 0, .int .i64 0, .int .i64 0] rfl
  have p2 := op_put hr p1 1 (.string y.own) #[.int .i64 y.kind, .string y.own, .int .i64 0, .slice none 0 0, .int .i64 0, .int .i64 0, .int .i64 0, .int .i64 0, .bool false, .int .i64 0, .int .i64 0, .int .i64 0] rfl
  have p3 := op_put hr p2 2 (.int .i64 y.name) #[.int .i64 y.kind, .string y.own, .int .i64 y.name, .slice none 0 0, .int .i64 0, .int .i64 0, .int .i64 0, .int .i64 0, .bool false, .int .i64 0, .int .i64 0, .int .i64 0] rfl
  have p4 := op_put hr p3 3 (lv) #[.int .i64 y.kind, .string y.own, .int .i64 y.name, lv, .int .i64 0, .int .i64 0, .int .i64 0, .int .i64 0, .bool false, .int .i64 0, .int .i64 0, .int .i64 0] rfl
  have p5 := op_put hr p4 4 (.int .i64 y.pe) #[.int .i64 y.kind, .string y.own, .int .i64 y.name, lv, .int .i64 y.pe, .int .i64 0, .int .i64 0, .int .i64 0, .bool false, .int .i64 0, .int .i64 0, .int .i64 0] rfl
  have p6 := op_put hr p5 5 (.int .i64 y.len) #[.int .i64 y.kind, .string y.own, .int .i64 y.name, lv, .int .i64 y.pe, .int .i64 y.len, .int .i64 0, .int .i64 0, .bool false, .int .i64 0, .int .i64 0, .int .i64 0] rfl
  have p7 := op_put hr p6 6 (.int .i64 y.hei) #[.int .i64 y.kind, .string y.own, .int .i64 y.name, lv, .int .i64 y.pe, .int .i64 y.len, .int .i64 y.hei, .int .i64 0, .bool false, .int .i64 0, .int .i64 0, .int .i64 0] rfl
  have p8 := op_put hr p7 7 (.int .i64 y.cl) #[.int .i64 y.kind, .string y.own, .int .i64 y.name, lv, .int .i64 y.pe, .int .i64 y.len, .int .i64 y.hei, .int .i64 y.cl, .bool false, .int .i64 0, .int .i64 0, .int .i64 0] rfl
  have p9 := op_put hr p8 8 (.bool y.all) #[.int .i64 y.kind, .string y.own, .int .i64 y.name, lv, .int .i64 y.pe, .int .i64 y.len, .int .i64 y.hei, .int .i64 y.cl, .bool y.all, .int .i64 0, .int .i64 0, .int .i64 0] rfl
  have p10 := op_put hr p9 9 (.int .i64 y.be) #[.int .i64 y.kind, .string y.own, .int .i64 y.name, lv, .int .i64 y.pe, .int .i64 y.len, .int .i64 y.hei, .int .i64 y.cl, .bool y.all, .int .i64 y.be, .int .i64 0, .int .i64 0] rfl
  have p11 := op_put hr p10 10 (.int .i64 y.unt) #[.int .i64 y.kind, .string y.own, .int .i64 y.name, lv, .int .i64 y.pe, .int .i64 y.len, .int .i64 y.hei, .int .i64 y.cl, .bool y.all, .int .i64 y.be, .int .i64 y.unt, .int .i64 0] rfl
  have p12 := op_put hr p11 11 (.int .i64 y.now) #[.int .i64 y.kind, .string y.own, .int .i64 y.name, lv, .int .i64 y.pe, .int .i64 y.len, .int .i64 y.hei, .int .i64 y.cl, .bool y.all, .int .i64 y.be, .int .i64 y.unt, .int .i64 y.now] rfl
  exact p12
/-- What the drawing of an operation answers. -/
def DrewTop (w : World) (e : Ending) (w' : World) : Prop :=
  (∃ (y : OpD) (ag : Option Addr) (cg : Nat), e = .returned (.agg (opCells y (.slice ag y.lgn cg))) ∧ y.own.size ≤ 10 ∧ y.lgn ≤ 7 ∧ Hid (w'.ownsRow w.heap.size 3 1 (.slice ag y.lgn cg) y.lgn (intList y.lg y.lgn))) ∧ Below w.heap.size w w'

set_option maxHeartbeats 6400000 in
set_option maxRecDepth 100000 in
theorem drawGoodOp_any (ao : Option Addr) (n c : Nat) (w : World) (hn : n ≤ 1048576) (h : BytesAt w ao n) :
    Calls Tryz.prog 13 #[.slice ao n c] w fun e w' => DrewTop w e w' := by
  have hb1 : Below w.heap.size w (w.alloc (.cells #[.int .i64 0, .string ⟨#[]⟩, .int .i64 0, .slice none 0 0, .int .i64 0, .int .i64 0, .int .i64 0, .int .i64 0, .bool false, .int .i64 0, .int .i64 0, .int .i64 0] 27)) := push (Below.refl _ _) _
  have bR := heap_alloc_new w (.cells #[.int .i64 0, .string ⟨#[]⟩, .int .i64 0, .slice none 0 0, .int .i64 0, .int .i64 0, .int .i64 0, .int .i64 0, .bool false, .int .i64 0, .int .i64 0, .int .i64 0] 27)
  have hs1 : (w.alloc (.cells #[.int .i64 0, .string ⟨#[]⟩, .int .i64 0, .slice none 0 0, .int .i64 0, .int .i64 0, .int .i64 0, .int .i64 0, .bool false, .int .i64 0, .int .i64 0, .int .i64 0] 27)).heap.size = w.heap.size + 1 := by simp
  have hB := h.below hb1
  go_enter Tryz.func13, Tryz.ntmps13
  go_wp2_with fail
  generalize w.alloc (.cells #[.int .i64 0, .string ⟨#[]⟩, .int .i64 0, .slice none 0 0, .int .i64 0, .int .i64 0, .int .i64 0, .int .i64 0, .bool false, .int .i64 0, .int .i64 0, .int .i64 0] 27) = V at hb1 bR hs1 hB ⊢
  have hc0 := curX_newT (c := c) hB
  have hp2 : Below V.heap.size V (V.alloc (.cells #[.slice ao n c, .int .i64 0, .int .u64 0] 60)) := push (Below.refl _ _) _
  have bR2 := blk_below bR hp2
  have hs2 : (V.alloc (.cells #[.slice ao n c, .int .i64 0, .int .u64 0] 60)).heap.size = w.heap.size + 1 + 1 := by simp [hs1]
  rw [hs1] at hc0
  generalize V.alloc (.cells #[.slice ao n c, .int .i64 0, .int .u64 0] 60) = V2 at hc0 hp2 bR2 hs2 ⊢
  have hb2 := after hb1 hp2
  have HCL : Hid (CodeLow V2 ao n) := codeLow_ofT hc0
  refine (office_any (w.heap.size + 1) ao n c 0 V2 (by omega) hn (by omega) HCL hc0).mono ?_
  rintro e w1 ⟨⟨N, S, a1, a2, a3, m2, m3, c1, c2, c3, L, C, rfl, hN, hm3, hO⟩, hcu, hk1⟩
  have bR3 := hk1.blk bR2 (by omega)
  have hs3 := hk1.size
  have HS : Hid (∀ u, Kept w1 u (fun b => b = w.heap.size + 1) → SailsAt u a1 N S) := fun u hk => by
    obtain ⟨⟨p, s, hp, hb⟩, _⟩ := hcu
    exact (hO.other hk (fun b e => by have e : b = w.heap.size + 1 := e; subst e; exact ⟨_, _, hb, by decide, by decide, by decide⟩)).at
  have HB1 : Hid (Below w.heap.size w w1) := Kept.below hb2 (by omega) hk1 (fun k e => by have e : k = w.heap.size + 1 := e; omega)
  clear hO bR bR2 hc0 hp2 HCL hb1 hb2 hB
  go_wp2_with fail
  refine (op_any (w.heap.size + 1) ao n c 90000000100000 a1 a2 a3 N c1 m2 c2 m3 c3 S w1 (by omega) (by omega) (by omega) hcu HS.out).mono ?_
  rintro e w2 ⟨⟨y, ag, cg, rfl, hy1, hy2, hlg⟩, _, hk2⟩
  have bR4 := hk2.blk bR3 (by omega)
  have HB2 : Hid (Below w.heap.size w w2) := Kept.below HB1.out (by omega) hk2 (fun k e => by have e : k = w.heap.size + 1 := e; omega)
  have HLG : Hid (w2.ownsRow w.heap.size 3 1 (.slice ag y.lgn cg) y.lgn (intList y.lg y.lgn)) := own_base hlg (by omega)
  clear hlg hk2 hcu HS HB1 bR3 hk1
  have m0 := blk_cell bR4 0 _ rfl
  have fr0 := blk_free bR4 0
  have m1 := blk_cell bR4 1 _ rfl
  have fr1 := blk_free bR4 1
  have m2 := blk_cell bR4 2 _ rfl
  have fr2 := blk_free bR4 2
  have m3 := blk_cell bR4 3 _ rfl
  have fr3 := blk_free bR4 3
  have m4 := blk_cell bR4 4 _ rfl
  have fr4 := blk_free bR4 4
  have m5 := blk_cell bR4 5 _ rfl
  have fr5 := blk_free bR4 5
  have m6 := blk_cell bR4 6 _ rfl
  have fr6 := blk_free bR4 6
  have m7 := blk_cell bR4 7 _ rfl
  have fr7 := blk_free bR4 7
  have m8 := blk_cell bR4 8 _ rfl
  have fr8 := blk_free bR4 8
  have m9 := blk_cell bR4 9 _ rfl
  have fr9 := blk_free bR4 9
  have m10 := blk_cell bR4 10 _ rfl
  have fr10 := blk_free bR4 10
  have m11 := blk_cell bR4 11 _ rfl
  have fr11 := blk_free bR4 11
  have hop : opCells y (.slice ag y.lgn cg) = #[.int .i64 y.kind, .string y.own, .int .i64 y.name, .slice ag y.lgn cg, .int .i64 y.pe, .int .i64 y.len, .int .i64 y.hei, .int .i64 y.cl, .bool y.all, .int .i64 y.be, .int .i64 y.unt, .int .i64 y.now] := rfl
  rw [hop]
  go_wp2
  have HE := op_end (Nat.le_refl _) y HB2.out bR4 HLG.out
  clear hop bR4 m0 fr0 m1 fr1 m2 fr2 m3 fr3 m4 fr4 m5 fr5 m6 fr6 m7 fr7 m8 fr8 m9 fr9 m10 fr10 m11 fr11
  have z0 : (endO w2 w.heap.size y (.slice ag y.lgn cg)).cell? ⟨w.heap.size, 0, none⟩ = some (.int .i64 y.kind) := blk_cell HE.2.1 0 _ rfl
  have z1 : (endO w2 w.heap.size y (.slice ag y.lgn cg)).cell? ⟨w.heap.size, 1, none⟩ = some (.string y.own) := blk_cell HE.2.1 1 _ rfl
  have z2 : (endO w2 w.heap.size y (.slice ag y.lgn cg)).cell? ⟨w.heap.size, 2, none⟩ = some (.int .i64 y.name) := blk_cell HE.2.1 2 _ rfl
  have z3 : (endO w2 w.heap.size y (.slice ag y.lgn cg)).cell? ⟨w.heap.size, 3, none⟩ = some (.slice ag y.lgn cg) := blk_cell HE.2.1 3 _ rfl
  have z4 : (endO w2 w.heap.size y (.slice ag y.lgn cg)).cell? ⟨w.heap.size, 4, none⟩ = some (.int .i64 y.pe) := blk_cell HE.2.1 4 _ rfl
  have z5 : (endO w2 w.heap.size y (.slice ag y.lgn cg)).cell? ⟨w.heap.size, 5, none⟩ = some (.int .i64 y.len) := blk_cell HE.2.1 5 _ rfl
  have z6 : (endO w2 w.heap.size y (.slice ag y.lgn cg)).cell? ⟨w.heap.size, 6, none⟩ = some (.int .i64 y.hei) := blk_cell HE.2.1 6 _ rfl
  have z7 : (endO w2 w.heap.size y (.slice ag y.lgn cg)).cell? ⟨w.heap.size, 7, none⟩ = some (.int .i64 y.cl) := blk_cell HE.2.1 7 _ rfl
  have z8 : (endO w2 w.heap.size y (.slice ag y.lgn cg)).cell? ⟨w.heap.size, 8, none⟩ = some (.bool y.all) := blk_cell HE.2.1 8 _ rfl
  have z9 : (endO w2 w.heap.size y (.slice ag y.lgn cg)).cell? ⟨w.heap.size, 9, none⟩ = some (.int .i64 y.be) := blk_cell HE.2.1 9 _ rfl
  have z10 : (endO w2 w.heap.size y (.slice ag y.lgn cg)).cell? ⟨w.heap.size, 10, none⟩ = some (.int .i64 y.unt) := blk_cell HE.2.1 10 _ rfl
  have z11 : (endO w2 w.heap.size y (.slice ag y.lgn cg)).cell? ⟨w.heap.size, 11, none⟩ = some (.int .i64 y.now) := blk_cell HE.2.1 11 _ rfl
  change bodyPost _ _ _ _ _ (endO w2 w.heap.size y (.slice ag y.lgn cg))
  generalize endO w2 w.heap.size y (.slice ag y.lgn cg) = wE at HE z0 z1 z2 z3 z4 z5 z6 z7 z8 z9 z10 z11 ⊢
  exact bodyPost_ret (v := .agg (opCells y (.slice ag y.lgn cg))) (by simp [results, Tryz.results13, go_sem, opCells, z0, z1, z2, z3, z4, z5, z6, z7, z8, z9, z10, z11]) rfl ⟨⟨y, ag, cg, rfl, hy1, hy2, HE.2.2⟩, HE.1⟩

set_option maxHeartbeats 6400000 in
set_option maxRecDepth 100000 in
theorem drawOpText_any (ao : Option Addr) (n c : Nat) (w : World) (hn : n ≤ 1048576) (h : BytesAt w ao n) :
    Calls Tryz.prog 4 #[.slice ao n c] w fun e w' => DrewTop w e w' := by
  have hb1 : Below w.heap.size w (w.alloc (.cells #[.int .i64 0, .string ⟨#[]⟩, .int .i64 0, .slice none 0 0, .int .i64 0, .int .i64 0, .int .i64 0, .int .i64 0, .bool false, .int .i64 0, .int .i64 0, .int .i64 0] 27)) := push (Below.refl _ _) _
  have bR := heap_alloc_new w (.cells #[.int .i64 0, .string ⟨#[]⟩, .int .i64 0, .slice none 0 0, .int .i64 0, .int .i64 0, .int .i64 0, .int .i64 0, .bool false, .int .i64 0, .int .i64 0, .int .i64 0] 27)
  go_enter Tryz.func4, Tryz.ntmps4
  go_wp2_with fail
  generalize w.alloc (.cells #[.int .i64 0, .string ⟨#[]⟩, .int .i64 0, .slice none 0 0, .int .i64 0, .int .i64 0, .int .i64 0, .int .i64 0, .bool false, .int .i64 0, .int .i64 0, .int .i64 0] 27) = V at hb1 bR ⊢
  refine (drawGoodOp_any ao n c V hn (h.below hb1)).mono ?_
  rintro e w2 ⟨⟨y, ag, cg, rfl, hy1, hy2, hlg⟩, hb2⟩
  have bR4 := blk_below bR hb2
  have HB2 : Hid (Below w.heap.size w w2) := after hb1 hb2
  have HLG : Hid (w2.ownsRow w.heap.size 3 1 (.slice ag y.lgn cg) y.lgn (intList y.lg y.lgn)) := own_base hlg.out hb1.size
  clear hlg hb2 hb1 bR
  have m0 := blk_cell bR4 0 _ rfl
  have fr0 := blk_free bR4 0
  have m1 := blk_cell bR4 1 _ rfl
  have fr1 := blk_free bR4 1
  have m2 := blk_cell bR4 2 _ rfl
  have fr2 := blk_free bR4 2
  have m3 := blk_cell bR4 3 _ rfl
  have fr3 := blk_free bR4 3
  have m4 := blk_cell bR4 4 _ rfl
  have fr4 := blk_free bR4 4
  have m5 := blk_cell bR4 5 _ rfl
  have fr5 := blk_free bR4 5
  have m6 := blk_cell bR4 6 _ rfl
  have fr6 := blk_free bR4 6
  have m7 := blk_cell bR4 7 _ rfl
  have fr7 := blk_free bR4 7
  have m8 := blk_cell bR4 8 _ rfl
  have fr8 := blk_free bR4 8
  have m9 := blk_cell bR4 9 _ rfl
  have fr9 := blk_free bR4 9
  have m10 := blk_cell bR4 10 _ rfl
  have fr10 := blk_free bR4 10
  have m11 := blk_cell bR4 11 _ rfl
  have fr11 := blk_free bR4 11
  have hop : opCells y (.slice ag y.lgn cg) = #[.int .i64 y.kind, .string y.own, .int .i64 y.name, .slice ag y.lgn cg, .int .i64 y.pe, .int .i64 y.len, .int .i64 y.hei, .int .i64 y.cl, .bool y.all, .int .i64 y.be, .int .i64 y.unt, .int .i64 y.now] := rfl
  rw [hop]
  go_wp2
  have HE := op_end (Nat.le_refl _) y HB2.out bR4 HLG.out
  clear hop bR4 m0 fr0 m1 fr1 m2 fr2 m3 fr3 m4 fr4 m5 fr5 m6 fr6 m7 fr7 m8 fr8 m9 fr9 m10 fr10 m11 fr11
  have z0 : (endO w2 w.heap.size y (.slice ag y.lgn cg)).cell? ⟨w.heap.size, 0, none⟩ = some (.int .i64 y.kind) := blk_cell HE.2.1 0 _ rfl
  have z1 : (endO w2 w.heap.size y (.slice ag y.lgn cg)).cell? ⟨w.heap.size, 1, none⟩ = some (.string y.own) := blk_cell HE.2.1 1 _ rfl
  have z2 : (endO w2 w.heap.size y (.slice ag y.lgn cg)).cell? ⟨w.heap.size, 2, none⟩ = some (.int .i64 y.name) := blk_cell HE.2.1 2 _ rfl
  have z3 : (endO w2 w.heap.size y (.slice ag y.lgn cg)).cell? ⟨w.heap.size, 3, none⟩ = some (.slice ag y.lgn cg) := blk_cell HE.2.1 3 _ rfl
  have z4 : (endO w2 w.heap.size y (.slice ag y.lgn cg)).cell? ⟨w.heap.size, 4, none⟩ = some (.int .i64 y.pe) := blk_cell HE.2.1 4 _ rfl
  have z5 : (endO w2 w.heap.size y (.slice ag y.lgn cg)).cell? ⟨w.heap.size, 5, none⟩ = some (.int .i64 y.len) := blk_cell HE.2.1 5 _ rfl
  have z6 : (endO w2 w.heap.size y (.slice ag y.lgn cg)).cell? ⟨w.heap.size, 6, none⟩ = some (.int .i64 y.hei) := blk_cell HE.2.1 6 _ rfl
  have z7 : (endO w2 w.heap.size y (.slice ag y.lgn cg)).cell? ⟨w.heap.size, 7, none⟩ = some (.int .i64 y.cl) := blk_cell HE.2.1 7 _ rfl
  have z8 : (endO w2 w.heap.size y (.slice ag y.lgn cg)).cell? ⟨w.heap.size, 8, none⟩ = some (.bool y.all) := blk_cell HE.2.1 8 _ rfl
  have z9 : (endO w2 w.heap.size y (.slice ag y.lgn cg)).cell? ⟨w.heap.size, 9, none⟩ = some (.int .i64 y.be) := blk_cell HE.2.1 9 _ rfl
  have z10 : (endO w2 w.heap.size y (.slice ag y.lgn cg)).cell? ⟨w.heap.size, 10, none⟩ = some (.int .i64 y.unt) := blk_cell HE.2.1 10 _ rfl
  have z11 : (endO w2 w.heap.size y (.slice ag y.lgn cg)).cell? ⟨w.heap.size, 11, none⟩ = some (.int .i64 y.now) := blk_cell HE.2.1 11 _ rfl
  change bodyPost _ _ _ _ _ (endO w2 w.heap.size y (.slice ag y.lgn cg))
  generalize endO w2 w.heap.size y (.slice ag y.lgn cg) = wE at HE z0 z1 z2 z3 z4 z5 z6 z7 z8 z9 z10 z11 ⊢
  exact bodyPost_ret (v := .agg (opCells y (.slice ag y.lgn cg))) (by simp [results, Tryz.results4, go_sem, opCells, z0, z1, z2, z3, z4, z5, z6, z7, z8, z9, z10, z11]) rfl ⟨⟨y, ag, cg, rfl, hy1, hy2, HE.2.2⟩, HE.1⟩

/-- What the drawing of a sailing answers. -/
def DrewSail (w : World) (e : Ending) (w' : World) : Prop :=
  (∃ (x : Sail) (lo co : Option Addr) (c1 c2 : Nat), e = .returned (.agg #[.int .i64 x.id, .string x.fr, .string x.dst, .int .i64 x.dep, .int .i64 x.arr, .slice lo x.la.n c1, .slice co x.ca.n c2, .int .i64 x.most]) ∧ Hid (w'.ownsRow w.heap.size 106 2 (.slice lo x.la.n c1) x.la.n (pairRow x.la) ∧ w'.ownsRow w.heap.size 110 2 (.slice co x.ca.n c2) x.ca.n (pairRow x.ca) ∧ ShortS x 100)) ∧ Below w.heap.size w w'
def endS (u : World) (r : Nat) (x : Sail) (vl vc : Value) : World := ((((((((u.setCell ⟨r, 0, none⟩ (.int .i64 x.id)).setCell ⟨r, 1, none⟩ (.string x.fr)).setCell ⟨r, 2, none⟩ (.string x.dst)).setCell ⟨r, 3, none⟩ (.int .i64 x.dep)).setCell ⟨r, 4, none⟩ (.int .i64 x.arr)).setCell ⟨r, 5, none⟩ (vl)).setCell ⟨r, 6, none⟩ (vc)).setCell ⟨r, 7, none⟩ (.int .i64 x.most))
theorem sail_put {w u : World} {B r : Nat} {cs : Array Value} (hr : B ≤ r) {k : Nat} {vl vc : Value} {m m2 : Nat} {xs xs2 : List Value} (h : Below B w u ∧ u.heap[r]? = some (.cells cs 37 (0, 0)) ∧ u.ownsRow k 106 2 vl m xs ∧ u.ownsRow k 110 2 vc m2 xs2) (i : Nat) (z : Value) (cs' : Array Value) (he : cs.setIfInBounds i z = cs') :
    Below B w (u.setCell ⟨r, i, none⟩ z) ∧ (u.setCell ⟨r, i, none⟩ z).heap[r]? = some (.cells cs' 37 (0, 0)) ∧ (u.setCell ⟨r, i, none⟩ z).ownsRow k 106 2 vl m xs ∧ (u.setCell ⟨r, i, none⟩ z).ownsRow k 110 2 vc m2 xs2 :=
  have hk := (Kept.refl u (fun b => b = r)).set (a := ⟨r, i, none⟩) rfl z
  ⟨h.1.setCell (p := ⟨r, i, none⟩) hr z, by rw [← he]; exact blk_set h.2.1 i z, hk.own h.2.2.1 (own_notE h.2.2.1 h.2.1 (by decide)), hk.own h.2.2.2 (own_notE h.2.2.2 h.2.1 (by decide))⟩
theorem sail_end {w u : World} {B r : Nat} (hr : B ≤ r) {k : Nat} {vl vc : Value} {m m2 : Nat} {xs xs2 : List Value} (x : Sail) (p0 : Below B w u ∧ u.heap[r]? = some (.cells #[.int .i64 0, .string ⟨#[]⟩, .string ⟨#[]⟩, .int .i64 0, .int .i64 0, .slice none 0 0, .slice none 0 0, .int .i64 0] 37 (0, 0)) ∧ u.ownsRow k 106 2 vl m xs ∧ u.ownsRow k 110 2 vc m2 xs2) :
    Below B w (endS u r x vl vc) ∧ (endS u r x vl vc).heap[r]? = some (.cells #[.int .i64 x.id, .string x.fr, .string x.dst, .int .i64 x.dep, .int .i64 x.arr, vl, vc, .int .i64 x.most] 37 (0, 0)) ∧ (endS u r x vl vc).ownsRow k 106 2 vl m xs ∧ (endS u r x vl vc).ownsRow k 110 2 vc m2 xs2 := by
  have p1 := sail_put hr p0 0 (.int .i64 x.id) #[.int .i64 x.id, .string ⟨#[]⟩, .string ⟨#[]⟩, .int .i64 0, .int .i64 0, .slice none 0 0, .slice none 0 0, .int .i64 0] rfl
  have p2 := sail_put hr p1 1 (.string x.fr) #[.int .i64 x.id, .string x.fr, .string ⟨#[]⟩, .int .i64 0, .int .i64 0, .slice none 0 0, .slice none 0 0, .int .i64 0] rfl
  have p3 := sail_put hr p2 2 (.string x.dst) #[.int .i64 x.id, .string x.fr, .string x.dst, .int .i64 0, .int .i64 0, .slice none 0 0, .slice none 0 0, .int .i64 0] rfl
  have p4 := sail_put hr p3 3 (.int .i64 x.dep) #[.int .i64 x.id, .string x.fr, .string x.dst, .int .i64 x.dep, .int .i64 0, .slice none 0 0, .slice none 0 0, .int .i64 0] rfl
  have p5 := sail_put hr p4 4 (.int .i64 x.arr) #[.int .i64 x.id, .string x.fr, .string x.dst, .int .i64 x.dep, .int .i64 x.arr, .slice none 0 0, .slice none 0 0, .int .i64 0] rfl
  have p6 := sail_put hr p5 5 (vl) #[.int .i64 x.id, .string x.fr, .string x.dst, .int .i64 x.dep, .int .i64 x.arr, vl, .slice none 0 0, .int .i64 0] rfl
  have p7 := sail_put hr p6 6 (vc) #[.int .i64 x.id, .string x.fr, .string x.dst, .int .i64 x.dep, .int .i64 x.arr, vl, vc, .int .i64 0] rfl
  have p8 := sail_put hr p7 7 (.int .i64 x.most) #[.int .i64 x.id, .string x.fr, .string x.dst, .int .i64 x.dep, .int .i64 x.arr, vl, vc, .int .i64 x.most] rfl
  exact p8

set_option maxHeartbeats 6400000 in
set_option maxRecDepth 100000 in
theorem drawGoodSail_any (ao : Option Addr) (n c : Nat) (w : World) (hn : n ≤ 1048576) (h : BytesAt w ao n) :
    Calls Tryz.prog 23 #[.slice ao n c] w fun e w' => DrewSail w e w' := by
  have hb1 : Below w.heap.size w (w.alloc (.cells #[.int .i64 0, .string ⟨#[]⟩, .string ⟨#[]⟩, .int .i64 0, .int .i64 0, .slice none 0 0, .slice none 0 0, .int .i64 0] 37)) := push (Below.refl _ _) _
  have bR := heap_alloc_new w (.cells #[.int .i64 0, .string ⟨#[]⟩, .string ⟨#[]⟩, .int .i64 0, .int .i64 0, .slice none 0 0, .slice none 0 0, .int .i64 0] 37)
  have hs1 : (w.alloc (.cells #[.int .i64 0, .string ⟨#[]⟩, .string ⟨#[]⟩, .int .i64 0, .int .i64 0, .slice none 0 0, .slice none 0 0, .int .i64 0] 37)).heap.size = w.heap.size + 1 := by simp
  have hB := h.below hb1
  go_enter Tryz.func23, Tryz.ntmps23
  go_wp2_with fail
  generalize w.alloc (.cells #[.int .i64 0, .string ⟨#[]⟩, .string ⟨#[]⟩, .int .i64 0, .int .i64 0, .slice none 0 0, .slice none 0 0, .int .i64 0] 37) = V at hb1 bR hs1 hB ⊢
  have hc0 := curX_newT (c := c) hB
  have hp2 : Below V.heap.size V (V.alloc (.cells #[.slice ao n c, .int .i64 0, .int .u64 0] 60)) := push (Below.refl _ _) _
  have bR2 := blk_below bR hp2
  have hs2 : (V.alloc (.cells #[.slice ao n c, .int .i64 0, .int .u64 0] 60)).heap.size = w.heap.size + 1 + 1 := by simp [hs1]
  rw [hs1] at hc0
  generalize V.alloc (.cells #[.slice ao n c, .int .i64 0, .int .u64 0] 60) = V2 at hc0 hp2 bR2 hs2 ⊢
  have hb2 := after hb1 hp2
  refine (pickC (w.heap.size + 1) ao n c 0 9 V2 (by omega) (by omega) (by omega) hc0).mono ?_
  rintro e w1 ⟨⟨r, rfl, hr⟩, hcu, hk1⟩
  have bR3 := hk1.blk bR2 (by omega)
  have hs3 := hk1.size
  have HB1 : Hid (Below w.heap.size w w1) := Kept.below hb2 (by omega) hk1 (fun k e => by have e : k = w.heap.size + 1 := e; omega)
  have hwr : IntKind.i64.wrap (1 + (r : Int)) = 1 + (r : Int) := by rw [IntKind.wrap_i64]; omega
  obtain ⟨p, s, hp, hca⟩ := hcu
  clear bR bR2 hc0 hp2 hb1 hb2 hB hk1
  go_wp2_with fail
  refine (sailing_any (w.heap.size + 1) ao n c p s (1 + (r : Int)) w1 (by omega) hn hca).mono ?_
  rintro e w2 ⟨⟨x, vl, vc, rfl, HX⟩, _, hk2⟩
  obtain ⟨lo, c1, rfl, _, _, _⟩ := own_form HX.out.1
  obtain ⟨co, c2, rfl, _, _, _⟩ := own_form HX.out.2.1
  have bR4 := hk2.blk bR3 (by omega)
  have HB2 : Hid (Below w.heap.size w w2) := Kept.below HB1.out (by omega) hk2 (fun k e => by have e : k = w.heap.size + 1 := e; omega)
  have HLG : Hid (w2.ownsRow w.heap.size 106 2 (.slice lo x.la.n c1) x.la.n (pairRow x.la) ∧ w2.ownsRow w.heap.size 110 2 (.slice co x.ca.n c2) x.ca.n (pairRow x.ca)) := ⟨own_base HX.out.1 (by omega), own_base HX.out.2.1 (by omega)⟩
  have HSH : Hid (ShortS x 100) := HX.out.2.2
  clear hk2 hca HB1 bR3 HX
  have m0 := blk_cell bR4 0 _ rfl
  have fr0 := blk_free bR4 0
  have m1 := blk_cell bR4 1 _ rfl
  have fr1 := blk_free bR4 1
  have m2 := blk_cell bR4 2 _ rfl
  have fr2 := blk_free bR4 2
  have m3 := blk_cell bR4 3 _ rfl
  have fr3 := blk_free bR4 3
  have m4 := blk_cell bR4 4 _ rfl
  have fr4 := blk_free bR4 4
  have m5 := blk_cell bR4 5 _ rfl
  have fr5 := blk_free bR4 5
  have m6 := blk_cell bR4 6 _ rfl
  have fr6 := blk_free bR4 6
  have m7 := blk_cell bR4 7 _ rfl
  have fr7 := blk_free bR4 7
  go_wp2
  have HE := sail_end (Nat.le_refl _) x ⟨HB2.out, bR4, HLG.out.1, HLG.out.2⟩
  clear bR4 m0 fr0 m1 fr1 m2 fr2 m3 fr3 m4 fr4 m5 fr5 m6 fr6 m7 fr7
  have z0 : (endS w2 w.heap.size x (.slice lo x.la.n c1) (.slice co x.ca.n c2)).cell? ⟨w.heap.size, 0, none⟩ = some (.int .i64 x.id) := blk_cell HE.2.1 0 _ rfl
  have z1 : (endS w2 w.heap.size x (.slice lo x.la.n c1) (.slice co x.ca.n c2)).cell? ⟨w.heap.size, 1, none⟩ = some (.string x.fr) := blk_cell HE.2.1 1 _ rfl
  have z2 : (endS w2 w.heap.size x (.slice lo x.la.n c1) (.slice co x.ca.n c2)).cell? ⟨w.heap.size, 2, none⟩ = some (.string x.dst) := blk_cell HE.2.1 2 _ rfl
  have z3 : (endS w2 w.heap.size x (.slice lo x.la.n c1) (.slice co x.ca.n c2)).cell? ⟨w.heap.size, 3, none⟩ = some (.int .i64 x.dep) := blk_cell HE.2.1 3 _ rfl
  have z4 : (endS w2 w.heap.size x (.slice lo x.la.n c1) (.slice co x.ca.n c2)).cell? ⟨w.heap.size, 4, none⟩ = some (.int .i64 x.arr) := blk_cell HE.2.1 4 _ rfl
  have z5 : (endS w2 w.heap.size x (.slice lo x.la.n c1) (.slice co x.ca.n c2)).cell? ⟨w.heap.size, 5, none⟩ = some (.slice lo x.la.n c1) := blk_cell HE.2.1 5 _ rfl
  have z6 : (endS w2 w.heap.size x (.slice lo x.la.n c1) (.slice co x.ca.n c2)).cell? ⟨w.heap.size, 6, none⟩ = some (.slice co x.ca.n c2) := blk_cell HE.2.1 6 _ rfl
  have z7 : (endS w2 w.heap.size x (.slice lo x.la.n c1) (.slice co x.ca.n c2)).cell? ⟨w.heap.size, 7, none⟩ = some (.int .i64 x.most) := blk_cell HE.2.1 7 _ rfl
  change bodyPost _ _ _ _ _ (endS w2 w.heap.size x (.slice lo x.la.n c1) (.slice co x.ca.n c2))
  generalize endS w2 w.heap.size x (.slice lo x.la.n c1) (.slice co x.ca.n c2) = wE at HE z0 z1 z2 z3 z4 z5 z6 z7 ⊢
  exact bodyPost_ret (v := .agg #[.int .i64 x.id, .string x.fr, .string x.dst, .int .i64 x.dep, .int .i64 x.arr, .slice lo x.la.n c1, .slice co x.ca.n c2, .int .i64 x.most]) (by simp [results, Tryz.results23, go_sem, z0, z1, z2, z3, z4, z5, z6, z7]) rfl ⟨⟨x, lo, co, c1, c2, rfl, HE.2.2.1, HE.2.2.2, HSH.out⟩, HE.1⟩

set_option maxHeartbeats 6400000 in
set_option maxRecDepth 100000 in
theorem drawSailText_any (ao : Option Addr) (n c : Nat) (w : World) (hn : n ≤ 1048576) (h : BytesAt w ao n) :
    Calls Tryz.prog 9 #[.slice ao n c] w fun e w' => DrewSail w e w' := by
  have hb1 : Below w.heap.size w (w.alloc (.cells #[.int .i64 0, .string ⟨#[]⟩, .string ⟨#[]⟩, .int .i64 0, .int .i64 0, .slice none 0 0, .slice none 0 0, .int .i64 0] 37)) := push (Below.refl _ _) _
  have bR := heap_alloc_new w (.cells #[.int .i64 0, .string ⟨#[]⟩, .string ⟨#[]⟩, .int .i64 0, .int .i64 0, .slice none 0 0, .slice none 0 0, .int .i64 0] 37)
  go_enter Tryz.func9, Tryz.ntmps9
  go_wp2_with fail
  generalize w.alloc (.cells #[.int .i64 0, .string ⟨#[]⟩, .string ⟨#[]⟩, .int .i64 0, .int .i64 0, .slice none 0 0, .slice none 0 0, .int .i64 0] 37) = V at hb1 bR ⊢
  refine (drawGoodSail_any ao n c V hn (h.below hb1)).mono ?_
  rintro e w2 ⟨⟨x, lo, co, c1, c2, rfl, HX⟩, hb2⟩
  have bR4 := blk_below bR hb2
  have HB2 : Hid (Below w.heap.size w w2) := after hb1 hb2
  have HLG : Hid (w2.ownsRow w.heap.size 106 2 (.slice lo x.la.n c1) x.la.n (pairRow x.la) ∧ w2.ownsRow w.heap.size 110 2 (.slice co x.ca.n c2) x.ca.n (pairRow x.ca)) := ⟨own_base HX.out.1 hb1.size, own_base HX.out.2.1 hb1.size⟩
  have HSH : Hid (ShortS x 100) := HX.out.2.2
  clear hb2 hb1 bR HX
  have m0 := blk_cell bR4 0 _ rfl
  have fr0 := blk_free bR4 0
  have m1 := blk_cell bR4 1 _ rfl
  have fr1 := blk_free bR4 1
  have m2 := blk_cell bR4 2 _ rfl
  have fr2 := blk_free bR4 2
  have m3 := blk_cell bR4 3 _ rfl
  have fr3 := blk_free bR4 3
  have m4 := blk_cell bR4 4 _ rfl
  have fr4 := blk_free bR4 4
  have m5 := blk_cell bR4 5 _ rfl
  have fr5 := blk_free bR4 5
  have m6 := blk_cell bR4 6 _ rfl
  have fr6 := blk_free bR4 6
  have m7 := blk_cell bR4 7 _ rfl
  have fr7 := blk_free bR4 7
  go_wp2
  have HE := sail_end (Nat.le_refl _) x ⟨HB2.out, bR4, HLG.out.1, HLG.out.2⟩
  clear bR4 m0 fr0 m1 fr1 m2 fr2 m3 fr3 m4 fr4 m5 fr5 m6 fr6 m7 fr7
  have z0 : (endS w2 w.heap.size x (.slice lo x.la.n c1) (.slice co x.ca.n c2)).cell? ⟨w.heap.size, 0, none⟩ = some (.int .i64 x.id) := blk_cell HE.2.1 0 _ rfl
  have z1 : (endS w2 w.heap.size x (.slice lo x.la.n c1) (.slice co x.ca.n c2)).cell? ⟨w.heap.size, 1, none⟩ = some (.string x.fr) := blk_cell HE.2.1 1 _ rfl
  have z2 : (endS w2 w.heap.size x (.slice lo x.la.n c1) (.slice co x.ca.n c2)).cell? ⟨w.heap.size, 2, none⟩ = some (.string x.dst) := blk_cell HE.2.1 2 _ rfl
  have z3 : (endS w2 w.heap.size x (.slice lo x.la.n c1) (.slice co x.ca.n c2)).cell? ⟨w.heap.size, 3, none⟩ = some (.int .i64 x.dep) := blk_cell HE.2.1 3 _ rfl
  have z4 : (endS w2 w.heap.size x (.slice lo x.la.n c1) (.slice co x.ca.n c2)).cell? ⟨w.heap.size, 4, none⟩ = some (.int .i64 x.arr) := blk_cell HE.2.1 4 _ rfl
  have z5 : (endS w2 w.heap.size x (.slice lo x.la.n c1) (.slice co x.ca.n c2)).cell? ⟨w.heap.size, 5, none⟩ = some (.slice lo x.la.n c1) := blk_cell HE.2.1 5 _ rfl
  have z6 : (endS w2 w.heap.size x (.slice lo x.la.n c1) (.slice co x.ca.n c2)).cell? ⟨w.heap.size, 6, none⟩ = some (.slice co x.ca.n c2) := blk_cell HE.2.1 6 _ rfl
  have z7 : (endS w2 w.heap.size x (.slice lo x.la.n c1) (.slice co x.ca.n c2)).cell? ⟨w.heap.size, 7, none⟩ = some (.int .i64 x.most) := blk_cell HE.2.1 7 _ rfl
  change bodyPost _ _ _ _ _ (endS w2 w.heap.size x (.slice lo x.la.n c1) (.slice co x.ca.n c2))
  generalize endS w2 w.heap.size x (.slice lo x.la.n c1) (.slice co x.ca.n c2) = wE at HE z0 z1 z2 z3 z4 z5 z6 z7 ⊢
  exact bodyPost_ret (v := .agg #[.int .i64 x.id, .string x.fr, .string x.dst, .int .i64 x.dep, .int .i64 x.arr, .slice lo x.la.n c1, .slice co x.ca.n c2, .int .i64 x.most]) (by simp [results, Tryz.results9, go_sem, z0, z1, z2, z3, z4, z5, z6, z7]) rfl ⟨⟨x, lo, co, c1, c2, rfl, HE.2.2.1, HE.2.2.2, HSH.out⟩, HE.1⟩

end Go.Proofs.YtfallpinmhbemaaGreatDoor

namespace Go.Proofs
open Go.Shelf
shelf_lay LaysM.n171 Nm 171 at Tryz as Tryz.lays171
shelf_lay Lays.n156 Nm 156 at Tryz as Tryz.lays156
set_option maxRecDepth 1000000 in
theorem Tryz.extra156 : Builder.Extra Tryz.prog Tryz.lays156_ren where
  sizeBuilder := by kernel_rfl
  liesBuilder := by kernel_rfl
  t5 := Tryz.underlying5
  a5 := Tryz.isAgg5
  z5 := Tryz.sizeOf5
  v5 := Tryz.zeroValue5
  infoByte := by kernel_rfl
  cellsByte := by kernel_rfl
  sizeByte := by kernel_rfl
  neB5 := by decide
end Go.Proofs

namespace Go.Proofs.YtfallpinmhbemaaGreatDoor
open Go.RowKit

theorem Tryz.gPow : Tryz.prog.globalNamed "internal/strconv.uint64pow10" = some 4 := by kernel_rfl
/-- The table of the powers of ten lies there. -/
def PowAt (w : World) : Prop := Lib.TabIs Tryz.prog w "internal/strconv.uint64pow10" .u64 Lib.pow10Tab
theorem PowAt.below {w w' : World} (h : PowAt w) (hb : Below w.heap.size w w') : PowAt w' := by
  exact Lib.tabBelow_of_tabIs h w' hb
/-- A number's text. -/
def numT (n : Int) : ByteArray := ⟨(Lib.itoa n).toArray⟩
theorem itoa_any (n : Int) (h0 : -9223372036854775808 ≤ n) (h1 : n ≤ 9223372036854775807) (w : World) (h : PowAt w) :
    Calls Tryz.prog 39 #[.int .i64 n] w fun e w' => e = .returned (.string (numT n)) ∧ Below w.heap.size w w' :=
  (Any.strconv_Itoa Tryz.lays171 n h0 h1 w h).mono fun e w' ⟨he, k, os, hw⟩ => ⟨he, by subst hw; exact Lib.below_grow _ _ (Nat.le_refl _) _ _⟩

/-- Texts with a text between them. -/
def joinT (sep : ByteArray) (l : List ByteArray) : ByteArray := ⟨(Lib.join (l.map (·.data.toList)) sep.data.toList).toArray⟩
/-- A row of texts of one's own. -/
def OwnT (w : World) (base : Nat) (v : Value) (l : List ByteArray) : Prop := w.ownsRow base 9 1 v l.length (l.map Value.string)
theorem join_any (sep : ByteArray) (l : List ByteArray) (v : Value) (base : Nat) (w : World) (h : OwnT w base v l) (hN : l.length ≤ 1048576) (hl : (joinT sep l).size ≤ 140737488355328) :
    Calls Tryz.prog 16 #[v, .string sep] w fun e w' => e = .returned (.string (joinT sep l)) ∧ Below w.heap.size w w' := by
  obtain ⟨ao, c, rfl, hc, _⟩ := own_form h
  by_cases h0 : l.length = 0
  · have e : l = [] := List.length_eq_zero_iff.1 h0
    subst e
    exact (Any.strings_Join_none Tryz.lays156 Tryz.extra156 ao c sep w).mono fun e w' ⟨he, hw⟩ => ⟨he, by subst hw; exact Below.refl _ _⟩
  · obtain ⟨g, rfl, _, hg⟩ := own_addr h (by omega)
    refine Any.strings_Join Tryz.lays156 Tryz.extra156 g 0 c l sep w (fun j x hx => ?_) hg (by omega) hc (by
      have e : (joinT sep l).size = (Lib.join (l.map (·.data.toList)) sep.data.toList).length := by show (Lib.join (l.map (·.data.toList)) sep.data.toList).toArray.size = _; simp
      rw [← e]; exact hl)
    have hj : j < l.length := by
      rcases Nat.lt_or_ge j l.length with h' | h'
      · exact h'
      · rw [List.getElem?_eq_none h'] at hx; cases hx
    rw [Nat.zero_add]
    rw [h.cellAt j (by omega), List.getElem?_map, hx]; rfl

end Go.Proofs.YtfallpinmhbemaaGreatDoor

namespace Go.Proofs.YtfallpinmhbemaaGreatDoor
open Go.RowKit

theorem bs_push (a : List UInt8) (x : UInt8) : (⟨a.toArray⟩ : ByteArray) ++ ByteArray.empty.push x = ⟨(a ++ [x]).toArray⟩ := by
  apply ByteArray.ext
  simp [ByteArray.data_append]
theorem bs_push0 (x : UInt8) : ByteArray.empty.push x = ⟨[x].toArray⟩ := rfl
theorem conv_at (W : World) (b : Nat) (x : Int) (h : W.heap[b]? = some (.cells #[.int .u8 x] 5 (0, 0))) :
    (convert 22 9 (.slice (some ⟨b, 0, none⟩) 1 1)).run Tryz.prog W = .ok (.string (ByteArray.empty.push (UInt8.ofNat x.toNat))) W := by
  rw [run_convert_bytes_string _ 22 9 5 _ 1 1 Tryz.underlying22 Tryz.underlying5 Tryz.underlying9]
  exact run_bytesToString _ _ 1 1 [x] (run_loadCells_list _ _ [.int .u8 x] (fun j v hj => by
    cases j with
    | zero => simp at hj; subst hj; exact blk_cell h 0 _ rfl
    | succ j => simp at hj))
theorem dec_step {u : Nat} (h : ¬ u < 10) : Lib.decDigits u = Lib.decDigits (u / 10) ++ [UInt8.ofNat (48 + (u : Int) % 10).toNat] := by
  rw [Lib.decDigits, dif_neg h]
  rfl
theorem dec_size (u : Nat) (h : u ≤ 9223372036854775807) : (Lib.decDigits u).length ≤ 100 := by
  rw [Lib.decDigits_length]
  have h1 : ∀ k u, u < 10 ^ (k + 1) → Lib.nDigits u ≤ k + 1 := by
    intro k
    induction k with
    | zero => intro u hu; rw [Lib.nDigits_small (by simpa using hu)]; omega
    | succ k ih =>
      intro u hu
      by_cases c : u < 10
      · rw [Lib.nDigits_small c]; omega
      · rw [Lib.nDigits_big c]
        have := ih (u / 10) (by rw [Nat.pow_succ] at hu; omega)
        omega
  have := h1 18 u (by omega)
  omega

set_option maxHeartbeats 1600000 in
set_option maxRecDepth 100000 in
theorem l1Num_nat : ∀ (u : Nat) (w : World), u ≤ 9223372036854775807 →
    Calls Tryz.prog 47 #[.int .i64 u] w fun e w' => e = .returned (.string ⟨(Lib.decDigits u).toArray⟩) ∧ Below w.heap.size w w' := by
  intro u
  induction u using Nat.strongRecOn with
  | _ u ih =>
    intro w hu
    have d0 : decide ((u : Int) < 0) = false := decide_eq_false (by omega)
    by_cases h10 : u < 10
    · have d1 : decide ((u : Int) < 10) = true := decide_eq_true (by omega)
      have hw1 : IntKind.i64.wrap (48 + (u : Int)) = 48 + (u : Int) := by rw [IntKind.wrap_i64]; omega
      have hw2 : IntKind.u8.wrap (48 + (u : Int)) = 48 + (u : Int) := by unfold IntKind.wrap; simp [IntKind.bits, IntKind.signed]; omega
      have hc := conv_at (w.alloc (.cells #[.int .u8 (48 + (u : Int))] 5)) w.heap.size (48 + (u : Int)) (heap_alloc_new _ _)
      have hb : Below w.heap.size w (w.alloc (.cells #[.int .u8 (48 + (u : Int))] 5)) := push (Below.refl _ _) _
      go_enter Tryz.func47, Tryz.ntmps47
      go_wp2
      go_ret
      refine ⟨?_, hb⟩
      rw [Lib.decDigits_one h10]
      congr 3
    · have d1 : decide ((u : Int) < 10) = false := decide_eq_false (by omega)
      have hw1 : IntKind.i64.wrap (48 + (u : Int) % 10) = 48 + (u : Int) % 10 := by rw [IntKind.wrap_i64]; omega
      have hw2 : IntKind.u8.wrap (48 + (u : Int) % 10) = 48 + (u : Int) % 10 := by unfold IntKind.wrap; simp [IntKind.bits, IntKind.signed]; omega
      have hq : IntKind.i64.wrap ((u : Int) / 10) = (u : Int) / 10 := by rw [IntKind.wrap_i64]; omega
      have htm : (u : Int).tmod 10 = (u : Int) % 10 := Int.tmod_eq_emod_of_nonneg (by omega)
      have HI : Hid (∀ W : World, Calls Tryz.prog 47 #[.int .i64 ((u : Int) / 10)] W fun e w' => e = .returned (.string ⟨(Lib.decDigits (u / 10)).toArray⟩) ∧ Below W.heap.size W w') := fun W => ih (u / 10) (by omega) W (by omega)
      have HC : Hid (∀ W b, W.heap[b]? = some (.cells #[.int .u8 (48 + (u : Int) % 10)] 5 (0, 0)) → (convert 22 9 (.slice (some ⟨b, 0, none⟩) 1 1)).run Tryz.prog W = .ok (.string (ByteArray.empty.push (UInt8.ofNat (48 + (u : Int) % 10).toNat))) W) := fun W b h => conv_at W b _ h
      have hsz := dec_size (u / 10) (by omega)
      have hsum : ∀ W : World, (Op.stringOp .add ⟨(Lib.decDigits (u / 10)).toArray⟩ (ByteArray.empty.push (UInt8.ofNat (48 + (u : Int) % 10).toNat))).run Tryz.prog W = .ok (.string (⟨(Lib.decDigits (u / 10)).toArray⟩ ++ ByteArray.empty.push (UInt8.ofNat (48 + (u : Int) % 10).toNat))) W := fun W => run_string_add_sum W _ _ (by
        show (Lib.decDigits (u / 10)).toArray.size + 1 ≤ _
        rw [List.size_toArray]; omega)
      clear ih
      go_enter Tryz.func47, Tryz.ntmps47
      go_upto_region 7 with fail
      have hc1 := HC.out (w.drew.alloc (.cells #[.int .u8 (48 + (u : Int) % 10)] 5)) _ (heap_alloc_new _ _)
      have hc5 := HC.out (w.alloc (.cells #[.int .u8 (48 + (u : Int) % 10)] 5)).drew w.heap.size (heap_alloc_new w _)
      have hc2 := HC.out (w.alloc (.cells #[.int .u8 (48 + (u : Int) % 10)] 5)) _ (heap_alloc_new _ _)
      go_region_with (first
        | (go_at_call 47; (with_reducible refine Calls.mono (HI.out _) ?_); rintro e w' ⟨rfl, hb⟩; have hc3 := HC.out (w'.alloc (.cells #[.int .u8 (48 + (u : Int) % 10)] 5)) _ (heap_alloc_new _ _); have hc6 := HC.out (w'.alloc (.cells #[.int .u8 (48 + (u : Int) % 10)] 5)).drew w'.heap.size (heap_alloc_new w' _); (first | (have hc4 := HC.out w' w.heap.size (blk_below (heap_alloc_new w.drew _) hb)) | (have hc4 := HC.out w' w.heap.size (blk_below (heap_alloc_new w _) hb)) | skip)))
      all_goals
        go_wp2
        go_ret
        refine ⟨?_, ?_⟩
        · refine Eq.trans (b := .returned (.string (⟨(Lib.decDigits (u / 10)).toArray⟩ ++ ByteArray.empty.push (UInt8.ofNat (48 + (u : Int) % 10).toNat)))) rfl ?_
          rw [bs_push, dec_step h10]
        · first | exact after (after (Below.refl _ _).drew hb) (push (Below.refl _ _) _) | exact after (push (Below.refl _ _) _).drew hb | exact after (push (Below.refl _ _) _) (hb.drew) | (trace_state; sorry)

end Go.Proofs.YtfallpinmhbemaaGreatDoor

namespace Go.Proofs.YtfallpinmhbemaaGreatDoor
open Go.RowKit

def fOwner (k : Nat) : Bool := decide (k = 2 ∨ k = 3 ∨ k = 7)
def fName (k : Nat) : Bool := decide (4 ≤ k ∧ k ≤ 8)
def fLegs (k : Nat) : Int := if k = 1 ∨ k = 2 ∨ k = 3 ∨ k = 5 then 3 else if k = 9 then 1 else 0
def fParty (k : Nat) : Bool := decide (k = 1 ∨ k = 2 ∨ k = 3 ∨ k = 5)
def fUntil (k : Nat) : Bool := decide (k = 2)
def fNow (k : Nat) : Bool := decide (k = 6 ∨ k = 8)
def fFrees (k : Nat) : Bool := decide (k = 5 ∨ k = 6 ∨ k = 8)
/-- The table of the forms lies there as the program's text lays it. -/
def FormsAt (w : World) : Prop := ∀ k, k < 10 →
  w.cell? ⟨0, k * 7, none⟩ = some (.bool (fOwner k)) ∧ w.cell? ⟨0, k * 7 + 1, none⟩ = some (.bool (fName k)) ∧ w.cell? ⟨0, k * 7 + 2, none⟩ = some (.int .i64 (fLegs k)) ∧
  w.cell? ⟨0, k * 7 + 3, none⟩ = some (.bool (fParty k)) ∧ w.cell? ⟨0, k * 7 + 4, none⟩ = some (.bool (fUntil k)) ∧ w.cell? ⟨0, k * 7 + 5, none⟩ = some (.bool (fNow k)) ∧ w.cell? ⟨0, k * 7 + 6, none⟩ = some (.bool (fFrees k))
theorem FormsAt.lt {w : World} (h : FormsAt w) : 0 < w.heap.size := World.block_lt_of_cell? w _ (h 0 (by decide)).1
theorem FormsAt.below {w w' : World} (h : FormsAt w) (hb : Below w.heap.size w w') : FormsAt w' := by
  intro k hk
  obtain ⟨h0, h1, h2, h3, h4, h5, h6⟩ := h k hk
  have hl := h.lt
  exact ⟨(hb.cell hl).trans h0, (hb.cell hl).trans h1, (hb.cell hl).trans h2, (hb.cell hl).trans h3, (hb.cell hl).trans h4, (hb.cell hl).trans h5, (hb.cell hl).trans h6⟩

end Go.Proofs.YtfallpinmhbemaaGreatDoor
