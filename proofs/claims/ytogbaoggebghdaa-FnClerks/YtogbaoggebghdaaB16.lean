/-
  OWN TEXT: CopyA, SpecOc2.
-/
import Derived.Lib.SliceRun
import Derived.Test.YtogbaoggebghdaaB15
import Derived.Test.YtogbaoggebghdaaB12
namespace Go.Proofs.Ytogbaoggebghdaa
open Go.RowKit

set_option maxHeartbeats 800000 in
theorem cloneRow (ao : Option Addr) (n c : Nat) (T : Nat → MRow) (w : World) (hn : n ≤ 1048576) (hx : MRowsAt w ao n T) (hnil : ao = none → n = 0 ∧ c = 0) :
    Calls Try.prog 78 #[.slice ao n c] w fun e w' => (∃ a' c', e = .returned (.slice a' n c') ∧ w'.ownsRow w.heap.size 84 5 (.slice a' n c') n (rowList T n)) ∧ Below w.heap.size w w' := by
  have qT : ∀ (w : World) (a : Option Addr) (n c n' c' : Nat), (binOp .eql 26 (.slice a n c) (.slice none n' c')).run Try.prog w = .ok (.bool a.isNone) w := fun w a n c n' c' => Lib.run_eql_slice_nil w _ _ a n c n' c' Try.underlying26
  cases ao with
  | none =>
    obtain ⟨rfl, rfl⟩ := hnil rfl
    clear hnil hx hn
    go_enter Try.func78, Try.ntmps78
    go_wp2
    go_ret
    refine ⟨⟨_, _, rfl, ?_⟩, Below.refl _ _⟩
    exact World.ownsRow_nil _ _ _ _
  | some ad =>
    obtain ⟨j0, ji, jz0, jz1, jz2⟩ := info_parts Try.infoRow
    have hb0 : Below w.heap.size w (w.alloc (.cells #[] 84)) := push (Below.refl _ _) _
    have ho : (w.alloc (.cells #[] 84)).ownsRow w.heap.size 84 5 (.slice (some ⟨w.heap.size, 0, none⟩) 0 0) 0 [] := ⟨rfl, .inr ⟨w.heap.size, 0, #[], rfl, Nat.le_refl _, heap_alloc_new w _, Nat.le_refl _, Nat.zero_le _, rfl, rfl⟩⟩
    have HC : Hid (∀ ad', (some ad : Option Addr) = some ad' → ∀ j u, (rowList T n)[j]? = some u → (w.alloc (.cells #[] 84)).cell? (ad'.add j) = some u) := rows_cells (hx.below hb0)
    clear hnil hx
    go_enter Try.func78, Try.ntmps78
    go_wp2_with (first | (at_builtin; refine wpList_append_any _ (by rfl) (.tmp 5) (.tmp 6) 26 (by rfl) w.heap.size 84 j0 (.agg #[.int .i64 0, .string ⟨#[]⟩, .int .i64 0, .int .i64 0, .int .i64 0]) 5 48 Try.underlying26 ji jz0 jz1 jz2 rfl (by decide) _ 0 [] (by rfl) ho (some ad) n c (rowList T n) (by rfl) (fun h => (by cases h)) (rowList_length _ _) HC.out (rowList_one _ _) (by unfold maxLen; omega) (by omega) (by simp) ?_; intro v' w3 ho3 hg3))
    go_ret
    rw [Nat.zero_add, List.nil_append] at ho3
    obtain ⟨a3, e3, rfl, _⟩ := own_form ho3
    exact ⟨⟨_, _, rfl, ho3⟩, hb0.grown hg3 (by simp) (fun j hj => (ho.lt j hj).1)⟩

set_option maxHeartbeats 3200000 in
set_option maxRecDepth 100000 in
theorem copyAnswer_any (code anam price : Int) (arw : Option Addr) (n crw : Nat) (T : Nat → MRow) (w : World) (hn : n ≤ 1048576) (hnil : arw = none → n = 0 ∧ crw = 0) (hx : MRowsAt w arw n T) :
    Calls Try.prog 65 #[.agg #[.int .i64 code, .int .i64 anam, .int .i64 price, .slice arw n crw]] w fun e w' => (∃ a' c', e = .returned (.agg #[.int .i64 code, .int .i64 anam, .int .i64 price, .slice a' n c']) ∧ w'.ownsRow w.heap.size 84 5 (.slice a' n c') n (rowList T n)) ∧ Below w.heap.size w w' := by
  have HX : Hid (MRowsAt w arw n T) := hx
  have HN : Hid (arw = none → n = 0 ∧ crw = 0) := hnil
  clear hx hnil
  have hb0 : Below w.heap.size w ((w.alloc (.cells #[.int .i64 code, .int .i64 anam, .int .i64 price, .slice arw n crw] 28)).alloc (.cells #[.int .i64 0, .int .i64 0, .int .i64 0, .slice none 0 0] 28)) := push (push (Below.refl _ _) _) _
  have bA : ((w.alloc (.cells #[.int .i64 code, .int .i64 anam, .int .i64 price, .slice arw n crw] 28)).alloc (.cells #[.int .i64 0, .int .i64 0, .int .i64 0, .slice none 0 0] 28)).heap[w.heap.size]? = some (.cells #[.int .i64 code, .int .i64 anam, .int .i64 price, .slice arw n crw] 28 (0, 0)) := blk_alloc (heap_alloc_new w _) _
  have bZ : ((w.alloc (.cells #[.int .i64 code, .int .i64 anam, .int .i64 price, .slice arw n crw] 28)).alloc (.cells #[.int .i64 0, .int .i64 0, .int .i64 0, .slice none 0 0] 28)).heap[w.heap.size + 1]? = some (.cells #[.int .i64 0, .int .i64 0, .int .i64 0, .slice none 0 0] 28 (0, 0)) := by simpa using heap_alloc_new (w.alloc (.cells #[.int .i64 code, .int .i64 anam, .int .i64 price, .slice arw n crw] 28)) _
  go_enter Try.func65, Try.ntmps65
  go_upto_region 1 with fail
  generalize (w.alloc (.cells #[.int .i64 code, .int .i64 anam, .int .i64 price, .slice arw n crw] 28)).alloc (.cells #[.int .i64 0, .int .i64 0, .int .i64 0, .slice none 0 0] 28) = V at hb0 bA bZ ⊢
  have hZV : w.heap.size + 1 < V.heap.size := blk_lt bZ
  have x3 := blk_cell bA 3 _ rfl
  go_wp2_with fail
  refine (cloneRow arw n crw T V hn (HX.out.below hb0) HN.out).mono ?_
  rintro e w3 ⟨⟨a3, e3, rfl, ho3⟩, hb3⟩
  have bA3 := blk_below bA hb3
  have bZ3 := blk_below bZ hb3
  have u3 := blk_cell bA3 3 _ rfl
  have f3 := blk_free bA3 3
  go_upto_region 2 with fail
  have bA4 := ans_at3 bA3 (.slice a3 n e3)
  have hk4 : Kept w3 (w3.setCell ⟨w.heap.size, 3, none⟩ (.slice a3 n e3)) (fun b => b = w.heap.size) := (Kept.refl _ (fun b => b = w.heap.size)).set (a := ⟨w.heap.size, 3, none⟩) rfl _
  have bZ4 := hk4.blk bZ3 (by omega)
  have hb4 : Below w.heap.size w (w3.setCell ⟨w.heap.size, 3, none⟩ (.slice a3 n e3)) := (after hb0 hb3).setCell (p := ⟨w.heap.size, 3, none⟩) (Nat.le_refl _) _
  have hl4 : (w3.setCell ⟨w.heap.size, 3, none⟩ (.slice a3 n e3)).ownsRow (w.heap.size + 1 + 1) 84 5 (.slice a3 n e3) n (rowList T n) := own_base (own_set ho3 (a := ⟨w.heap.size, 3, none⟩) (by show w.heap.size < V.heap.size; omega) _) (by omega)
  generalize w3.setCell ⟨w.heap.size, 3, none⟩ (.slice a3 n e3) = W4 at bA4 bZ4 hb4 hl4 ⊢
  clear bA3 u3 f3 hb3 ho3 x3 bZ3 hk4
  have y0 := blk_cell bA4 0 _ rfl
  have y1 := blk_cell bA4 1 _ rfl
  have y2 := blk_cell bA4 2 _ rfl
  have y3 := blk_cell bA4 3 _ rfl
  have z0 := blk_cell bZ4 0 _ rfl
  have z1 := blk_cell bZ4 1 _ rfl
  have z2 := blk_cell bZ4 2 _ rfl
  have z3 := blk_cell bZ4 3 _ rfl
  have f0 := blk_free bZ4 0
  have f1 := blk_free bZ4 1
  have f2 := blk_free bZ4 2
  have f3 := blk_free bZ4 3
  go_wp2
  have rF := ans_set bZ4 (.int .i64 code) (.int .i64 anam) (.int .i64 price) (.slice a3 n e3)
  have hFb : Below w.heap.size w ((((W4.setCell ⟨w.heap.size + 1, 0, none⟩ (.int .i64 code)).setCell ⟨w.heap.size + 1, 1, none⟩ (.int .i64 anam)).setCell ⟨w.heap.size + 1, 2, none⟩ (.int .i64 price)).setCell ⟨w.heap.size + 1, 3, none⟩ (.slice a3 n e3)) := (((hb4.setCell (p := ⟨w.heap.size + 1, 0, none⟩) (by show w.heap.size ≤ w.heap.size + 1; omega) _).setCell (p := ⟨w.heap.size + 1, 1, none⟩) (by show w.heap.size ≤ w.heap.size + 1; omega) _).setCell (p := ⟨w.heap.size + 1, 2, none⟩) (by show w.heap.size ≤ w.heap.size + 1; omega) _).setCell (p := ⟨w.heap.size + 1, 3, none⟩) (by show w.heap.size ≤ w.heap.size + 1; omega) _
  have hFo : ((((W4.setCell ⟨w.heap.size + 1, 0, none⟩ (.int .i64 code)).setCell ⟨w.heap.size + 1, 1, none⟩ (.int .i64 anam)).setCell ⟨w.heap.size + 1, 2, none⟩ (.int .i64 price)).setCell ⟨w.heap.size + 1, 3, none⟩ (.slice a3 n e3)).ownsRow w.heap.size 84 5 (.slice a3 n e3) n (rowList T n) := own_base (own_set (own_set (own_set (own_set hl4 (a := ⟨w.heap.size + 1, 0, none⟩) (by show w.heap.size + 1 < w.heap.size + 1 + 1; omega) _) (a := ⟨w.heap.size + 1, 1, none⟩) (by show w.heap.size + 1 < w.heap.size + 1 + 1; omega) _) (a := ⟨w.heap.size + 1, 2, none⟩) (by show w.heap.size + 1 < w.heap.size + 1 + 1; omega) _) (a := ⟨w.heap.size + 1, 3, none⟩) (by show w.heap.size + 1 < w.heap.size + 1 + 1; omega) _) (by omega)
  generalize (((W4.setCell ⟨w.heap.size + 1, 0, none⟩ (.int .i64 code)).setCell ⟨w.heap.size + 1, 1, none⟩ (.int .i64 anam)).setCell ⟨w.heap.size + 1, 2, none⟩ (.int .i64 price)).setCell ⟨w.heap.size + 1, 3, none⟩ (.slice a3 n e3) = F at rF hFb hFo ⊢
  have z0 := blk_cell rF 0 _ rfl
  have z1 := blk_cell rF 1 _ rfl
  have z2 := blk_cell rF 2 _ rfl
  have z3 := blk_cell rF 3 _ rfl
  exact bodyPost_ret (v := .agg #[.int .i64 code, .int .i64 anam, .int .i64 price, .slice a3 n e3]) (by simp [results, Try.results65, go_sem, z0, z1, z2, z3]) rfl ⟨⟨_, _, rfl, hFo⟩, hFb⟩

end Go.Proofs.Ytogbaoggebghdaa

namespace Go.Proofs.Ytogbaoggebghdaa
open Go.RowKit

theorem clk_set4 {w : World} {g t : Nat} {u0 u1 u2 u3 u4 u5 u6 : Value} (h : w.heap[g]? = some (.cells #[u0, u1, u2, u3, u4, u5, u6] t (0, 0))) (v0 v1 v2 v3 : Value) : ((((w.setCell ⟨g, 3, none⟩ v0).setCell ⟨g, 4, none⟩ v1).setCell ⟨g, 5, none⟩ v2).setCell ⟨g, 6, none⟩ v3).heap[g]? = some (.cells #[u0, u1, u2, v0, v1, v2, v3] t (0, 0)) := by
  have h0 : (w.setCell ⟨g, 3, none⟩ v0).heap[g]? = some (.cells #[u0, u1, u2, v0, u4, u5, u6] t (0, 0)) := by simpa using blk_set h 3 v0
  have h1 : ((w.setCell ⟨g, 3, none⟩ v0).setCell ⟨g, 4, none⟩ v1).heap[g]? = some (.cells #[u0, u1, u2, v0, v1, u5, u6] t (0, 0)) := by simpa using blk_set h0 4 v1
  have h2 : (((w.setCell ⟨g, 3, none⟩ v0).setCell ⟨g, 4, none⟩ v1).setCell ⟨g, 5, none⟩ v2).heap[g]? = some (.cells #[u0, u1, u2, v0, v1, v2, u6] t (0, 0)) := by simpa using blk_set h1 5 v2
  simpa using blk_set h2 6 v3

set_option maxHeartbeats 6400000 in
set_option maxRecDepth 100000 in
theorem l10Own_any (ao : Option Addr) (N c : Nat) (S : Nat → ClkD) (w : World) (hN : N ≤ 1048576) (hs : ClkDsShort N S 1048576) (hx : ClkDsAt w ao N S) :
    Calls Try.prog 44 #[.slice ao N c] w fun e w' => (∃ ao' c' R, e = .returned (.slice ao' N c') ∧ OwnClks w' w.heap.size (.slice ao' N c') N S R) ∧ Below w.heap.size w w' := by
  obtain ⟨j0, ji, jz0, jz1, jz2⟩ := info_parts Try.infoClerk
  have HX : Hid (ClkDsAt w ao N S) := hx
  have HS : Hid (ClkDsShort N S 1048576) := hs
  clear hx hs
  go_enter Try.func44, Try.ntmps44
  go_wp2
  go_loopw [3, 8] (fun v i wr => ∃ (k : Nat) (R : Nat → Value), k ≤ N ∧ i = .int .i64 k ∧ OwnClks wr w.heap.size v k S R ∧ Below w.heap.size w wr) (fun _ i _ => N - (intOf i).toNat)
  case atStart => exact ⟨0, fun _ => .slice none 0 0, Nat.zero_le _, rfl, OwnClks.nil _ _ _ _, Below.refl _ _⟩
  case round =>
    obtain ⟨k, R, hk, rfl, hO, hbel⟩ := hrel
    obtain ⟨av, cv, rfl, _⟩ := own_form hO.row
    by_cases hlt : k < N
    · obtain ⟨C, hC, hI⟩ := HX.out
      obtain ⟨b, off, ea, hc⟩ := hC k hlt
      obtain ⟨arw, crw, eC, hrw, q1⟩ := hI k hlt
      have l1 : b < w.heap.size := World.block_lt_of_cell? w _ (hc 0 (by decide))
      subst ea
      have c0 : wr.cell? ⟨b, off + k * 7, none⟩ = some (.string (S k).nam) := (hbel.cell (p := ⟨b, off + k * 7, none⟩) l1).trans (by have := hc 0 (by decide); rw [eC] at this; exact this)
      have c1 : wr.cell? ⟨b, off + k * 7 + 1, none⟩ = some (.int .i64 (S k).num) := (hbel.cell (p := ⟨b, off + k * 7 + 1, none⟩) l1).trans (by have := hc 1 (by decide); rw [eC] at this; exact this)
      have c2 : wr.cell? ⟨b, off + k * 7 + 2, none⟩ = some (.bool (S k).opn) := (hbel.cell (p := ⟨b, off + k * 7 + 2, none⟩) l1).trans (by have := hc 2 (by decide); rw [eC] at this; exact this)
      have c3 : wr.cell? ⟨b, off + k * 7 + 3, none⟩ = some (.int .i64 (S k).code) := (hbel.cell (p := ⟨b, off + k * 7 + 3, none⟩) l1).trans (by have := hc 3 (by decide); rw [eC] at this; exact this)
      have c4 : wr.cell? ⟨b, off + k * 7 + 4, none⟩ = some (.int .i64 (S k).anam) := (hbel.cell (p := ⟨b, off + k * 7 + 4, none⟩) l1).trans (by have := hc 4 (by decide); rw [eC] at this; exact this)
      have c5 : wr.cell? ⟨b, off + k * 7 + 5, none⟩ = some (.int .i64 (S k).price) := (hbel.cell (p := ⟨b, off + k * 7 + 5, none⟩) l1).trans (by have := hc 5 (by decide); rw [eC] at this; exact this)
      have c6 : wr.cell? ⟨b, off + k * 7 + 6, none⟩ = some (.slice arw (S k).rwn crw) := (hbel.cell (p := ⟨b, off + k * 7 + 6, none⟩) l1).trans (by have := hc 6 (by decide); rw [eC] at this; exact this)
      have HRW : Hid (MRowsAt w arw (S k).rwn (S k).rw) := hrw
      have HNL : Hid (arw = none → (S k).rwn = 0 ∧ crw = 0) := q1.2.2
      have hsn : (S k).rwn ≤ 1048576 := (HS.out k hlt).2.1
      clear hC hI hc eC hrw q1
      go_upto_region 5 with fail
      generalize hG : wr.alloc (.cells #[.string (S k).nam, .int .i64 (S k).num, .bool (S k).opn, .int .i64 (S k).code, .int .i64 (S k).anam, .int .i64 (S k).price, .slice arw (S k).rwn crw] 68) = W at *
      have bC : W.heap[wr.heap.size]? = some (.cells #[.string (S k).nam, .int .i64 (S k).num, .bool (S k).opn, .int .i64 (S k).code, .int .i64 (S k).anam, .int .i64 (S k).price, .slice arw (S k).rwn crw] 68 (0, 0)) := by rw [← hG]; exact heap_alloc_new _ _
      have hb1 : Below wr.heap.size wr W := by rw [← hG]; exact push (Below.refl _ _) _
      obtain ⟨cB, hcB⟩ : ∃ u, u = wr.heap.size := ⟨_, rfl⟩
      rw [← hcB] at bC ⊢
      have HcB : Hid (cB = wr.heap.size) := hcB
      clear hG hcB c0 c1 c2 c3 c4 c5 c6
      have hcl : cB < W.heap.size := blk_lt bC
      have x3 := blk_cell bC 3 _ rfl
      have x4 := blk_cell bC 4 _ rfl
      have x5 := blk_cell bC 5 _ rfl
      have x6 := blk_cell bC 6 _ rfl
      have hbw := after hbel hb1
      have HO : Hid (OwnClks W w.heap.size (.slice av k cv) k S R) := hO.below hb1
      have HLM : Hid (∀ i, i < k → ∀ b, (R i).ownBlock = some b → b < W.heap.size) := fun i hi b hb => ((HO.out.rows i hi).lt b hb).2
      have hnot : Hid (∀ g, (Value.slice av k cv).ownBlock = some g → g ≠ cB) := fun g hg => by have := (hO.row.lt g hg).2; have := HcB.out; omega
      have hnot2 : Hid (∀ i, i < k → ∀ g, (R i).ownBlock = some g → g ≠ cB) := fun i hi g hg => by have := ((hO.rows i hi).lt g hg).2; have := HcB.out; omega
      clear hO
      go_wp2_with fail
      refine (l10OwnAns_any _ _ _ arw (S k).rwn crw (S k).rw _ hsn HNL.out (HRW.out.below hbw)).mono ?_
      rintro e W2 ⟨⟨a', c', rfl, ho2⟩, hb2⟩
      have bC2 := blk_below bC hb2
      have y3 := blk_cell bC2 3 _ rfl
      have y4 := blk_cell bC2 4 _ rfl
      have y5 := blk_cell bC2 5 _ rfl
      have y6 := blk_cell bC2 6 _ rfl
      have f3 := blk_free bC2 3
      have f4 := blk_free bC2 4
      have f5 := blk_free bC2 5
      have f6 := blk_free bC2 6
      go_upto_region 6 with fail
      have bC3 := clk_set4 bC2 (.int .i64 (S k).code) (.int .i64 (S k).anam) (.int .i64 (S k).price) (.slice a' (S k).rwn c')
      have hk3 : Kept W2 ((((W2.setCell ⟨cB, 3, none⟩ (.int .i64 (S k).code)).setCell ⟨cB, 4, none⟩ (.int .i64 (S k).anam)).setCell ⟨cB, 5, none⟩ (.int .i64 (S k).price)).setCell ⟨cB, 6, none⟩ (.slice a' (S k).rwn c')) (fun b => b = cB) := ((((Kept.refl W2 (fun b => b = cB)).set (a := ⟨cB, 3, none⟩) rfl _).set (a := ⟨cB, 4, none⟩) rfl _).set (a := ⟨cB, 5, none⟩) rfl _).set (a := ⟨cB, 6, none⟩) rfl _
      have ho3 : ((((W2.setCell ⟨cB, 3, none⟩ (.int .i64 (S k).code)).setCell ⟨cB, 4, none⟩ (.int .i64 (S k).anam)).setCell ⟨cB, 5, none⟩ (.int .i64 (S k).price)).setCell ⟨cB, 6, none⟩ (.slice a' (S k).rwn c')).ownsRow W.heap.size 84 5 (.slice a' (S k).rwn c') (S k).rwn (rowList (S k).rw (S k).rwn) := hk3.own ho2 (fun g hg e => by have := (ho2.lt g hg).1; omega)
      have HO3 : Hid (OwnClks ((((W2.setCell ⟨cB, 3, none⟩ (.int .i64 (S k).code)).setCell ⟨cB, 4, none⟩ (.int .i64 (S k).anam)).setCell ⟨cB, 5, none⟩ (.int .i64 (S k).price)).setCell ⟨cB, 6, none⟩ (.slice a' (S k).rwn c')) w.heap.size (.slice av k cv) k S R) := by
        refine ⟨hk3.own (HO.out.below hb2).row (fun g hg e => ?_), fun i hi => hk3.own ((HO.out.below hb2).rows i hi) (fun g hg e => ?_), HO.out.apart⟩
        · exact hnot.out g hg e
        · exact hnot2.out i hi g hg e
      have hbw3 : Below w.heap.size w ((((W2.setCell ⟨cB, 3, none⟩ (.int .i64 (S k).code)).setCell ⟨cB, 4, none⟩ (.int .i64 (S k).anam)).setCell ⟨cB, 5, none⟩ (.int .i64 (S k).price)).setCell ⟨cB, 6, none⟩ (.slice a' (S k).rwn c')) := Kept.below (after hbw hb2) (after hbw hb2).size hk3 (fun b e => by have e : b = cB := e; have := hbel.size; have := HcB.out; omega)
      generalize (((W2.setCell ⟨cB, 3, none⟩ (.int .i64 (S k).code)).setCell ⟨cB, 4, none⟩ (.int .i64 (S k).anam)).setCell ⟨cB, 5, none⟩ (.int .i64 (S k).price)).setCell ⟨cB, 6, none⟩ (.slice a' (S k).rwn c') = W3 at bC3 hk3 ho3 HO3 hbw3 ⊢
      have hsz3 := hk3.size
      clear bC bC2 x3 x4 x5 x6 y3 y4 y5 y6 f3 f4 f5 f6 hk3 ho2 hbw
      have z0 := blk_cell bC3 0 _ rfl
      have z1 := blk_cell bC3 1 _ rfl
      have z2 := blk_cell bC3 2 _ rfl
      have z3 := blk_cell bC3 3 _ rfl
      have z4 := blk_cell bC3 4 _ rfl
      have z5 := blk_cell bC3 5 _ rfl
      have z6 := blk_cell bC3 6 _ rfl
      have hb4 : Below W3.heap.size W3 (W3.alloc (.cells #[.string (S k).nam, .int .i64 (S k).num, .bool (S k).opn, .int .i64 (S k).code, .int .i64 (S k).anam, .int .i64 (S k).price, .slice a' (S k).rwn c'] 68)) := push (Below.refl _ _) _
      have HO4 : Hid (OwnClks (W3.alloc (.cells #[.string (S k).nam, .int .i64 (S k).num, .bool (S k).opn, .int .i64 (S k).code, .int .i64 (S k).anam, .int .i64 (S k).price, .slice a' (S k).rwn c'] 68)) w.heap.size (.slice av k cv) k S R) := HO3.out.below hb4
      have HR4 : Hid ((W3.alloc (.cells #[.string (S k).nam, .int .i64 (S k).num, .bool (S k).opn, .int .i64 (S k).code, .int .i64 (S k).anam, .int .i64 (S k).price, .slice a' (S k).rwn c'] 68)).ownsRow W.heap.size 84 5 (.slice a' (S k).rwn c') (S k).rwn (rowList (S k).rw (S k).rwn)) := own_below hb4 ho3
      have HNW : Hid (∀ j u, ([.string (S k).nam, .int .i64 (S k).num, .bool (S k).opn, .int .i64 (S k).code, .int .i64 (S k).anam, .int .i64 (S k).price, .slice a' (S k).rwn c'] : List Value)[j]? = some u → (W3.alloc (.cells #[.string (S k).nam, .int .i64 (S k).num, .bool (S k).opn, .int .i64 (S k).code, .int .i64 (S k).anam, .int .i64 (S k).price, .slice a' (S k).rwn c'] 68)).cell? ((⟨W3.heap.size, 0, none⟩ : Addr).add j) = some u) := World.news_of_block (heap_alloc_new W3 _)
      have hsq : w.heap.size ≤ (W3.alloc (.cells #[.string (S k).nam, .int .i64 (S k).num, .bool (S k).opn, .int .i64 (S k).code, .int .i64 (S k).anam, .int .i64 (S k).price, .slice a' (S k).rwn c'] 68)).heap.size := Nat.le_trans hbw3.size hb4.size
      have hbw4 := after hbw3 hb4
      have hwW : w.heap.size ≤ W.heap.size := by have := hbel.size; have := HcB.out; omega
      clear ho3
      go_wp2_with (first | (at_builtin; refine wpList_append_any _ (by rfl) (.tmp 16) (.tmp 18) 23 (by rfl) w.heap.size 68 j0 (.agg #[.string ⟨#[]⟩, .int .i64 0, .bool false, .int .i64 0, .int .i64 0, .int .i64 0, .slice none 0 0]) 7 80 Try.underlying23 ji jz0 jz1 jz2 rfl (by decide) _ k _ (by rfl) HO4.out.row (some ⟨W3.heap.size, 0, none⟩) 1 1 [.string (S k).nam, .int .i64 (S k).num, .bool (S k).opn, .int .i64 (S k).code, .int .i64 (S k).anam, .int .i64 (S k).price, .slice a' (S k).rwn c'] (by rfl) (fun h => (by cases h)) (by rfl) (fun ad e => by cases e; exact HNW.out) (by intro u hu; simp at hu; rcases hu with rfl | rfl | rfl | rfl | rfl | rfl | rfl <;> rfl) (by unfold maxLen; omega) (by omega) hsq ?_; intro v9 w9 ho9 hg9; obtain ⟨a9, e9, rfl, _⟩ := own_form ho9))
      have hO9 : OwnClks w9 w.heap.size (.slice a9 (k + 1) e9) (k + 1) S (atV R k (.slice a' (S k).rwn c')) := HO4.out.snoc (lim := W.heap.size) HLM.out HR4.out hwW hg9 ho9
      have hb9 : Below w.heap.size w w9 := hbw4.grown hg9 hbw4.size (fun j hj => (HO4.out.row.lt j hj).1)
      go_roundw
      case rel => exact ⟨k + 1, _, by omega, by go_num, hO9, hb9⟩
      case measure => simp [intOf]; omega
    · obtain rfl : k = N := by omega
      go_wp2
      go_ret
      exact ⟨⟨_, _, _, rfl, hO⟩, hbel⟩

end Go.Proofs.Ytogbaoggebghdaa
