/-
  OWN TEXT: SpecEg, SpecEh, KitMRow, PlainRows, InfoMRow.
-/
import Derived.Deep.DeepCutAuto
import Derived.Deep.RegionLawGrows
import Derived.Deep.RegionHeld3
import Derived.Deep.AppendLies
import Derived.Great.Walk
import Derived.Test.YtfallpinmhbemaaGreatDoorRows
import Derived.Test.YtfallpinmhbemaaGreatDoorB19
import Derived.Test.YtfallpinmhbemaaGreatDoorB20
import Derived.Test.YtfallpinmhbemaaGreatDoorB07
import Derived.Test.YtfallpinmhbemaaGreatDoorB00
import Derived.Test.YtfallpinmhbemaaGreatDoorB09
namespace Go.Proofs.YtfallpinmhbemaaGreatDoor
open Go.RowKit

set_option maxHeartbeats 25600000 in
set_option maxRecDepth 100000 in
theorem l7End_2f (g base N R csa cld cbk clg : Nat) (asa ald abk alg : Option Addr) (bys : Int) (y : OpD) (x : Off) (L C A B D E : Nat → Value) (w : World) (hq : w.heap[g]? = some (.cells #[.slice asa N csa, .slice ald N cld, .slice abk R cbk] 66 (0, 0))) (ho : OwnOff w base (.slice asa N csa) (.slice ald N cld) (.slice abk R cbk) N N R x L C A B D E) (hxb : x.bkn = R) (hbw : base ≤ w.heap.size) (hkd : y.kind = 2) (hpe : In y.pe 0 20) (hln : y.lgn ≤ 3) (hlg : IntsAt w alg y.lgn y.lg) (hsl : SliceOk alg y.lgn clg) (hlo : 0 < y.lgn → ∀ a, alg = some a → a.block < base) (hR : R = 30) :
    Calls Tryz.prog 123 #[.pointer (some ⟨g, 0, none⟩), .int .i64 bys, .agg #[.int .i64 y.kind, .string y.own, .int .i64 y.name, .slice alg y.lgn clg, .int .i64 y.pe, .int .i64 y.len, .int .i64 y.hei, .int .i64 y.cl, .bool y.all, .int .i64 y.be, .int .i64 y.unt, .int .i64 y.now]] w fun e w' => EndIs g base N csa cld asa ald (fun _ => False) x 8 0 0 (fun _ v => v = .slice none 0 0) L C A B D w e w' := by
  subst hR
  rw [hkd]
  have HO : Hid (OwnOff w base (.slice asa N csa) (.slice ald N cld) (.slice abk 30 cbk) N N 30 x L C A B D E) := ho
  have HQ : Hid (w.heap[g]? = some (.cells #[.slice asa N csa, .slice ald N cld, .slice abk 30 cbk] 66 (0, 0))) := hq
  have HKD : Hid (y.kind = 2) := hkd
  have HXB : Hid (x.bkn = 30) := hxb
  have HBW : Hid (base ≤ w.heap.size) := hbw
  have HLG : Hid (IntsAt w alg y.lgn y.lg) := hlg
  have HSL : Hid (SliceOk alg y.lgn clg) := hsl
  have HLO : Hid (0 < y.lgn → ∀ a, alg = some a → a.block < base) := hlo
  clear ho hq hkd hxb hbw hlg hsl hlo
  obtain ⟨pr, hpr⟩ : ∃ pr, pr = priceOf ⟨y.pe, y.len, y.hei, y.cl, y.all, y.be⟩ (y.lgn : Int) := ⟨_, rfl⟩
  have HPR : Hid (pr = priceOf ⟨y.pe, y.len, y.hei, y.cl, y.all, y.be⟩ (y.lgn : Int)) := hpr
  have hb0 : Below w.heap.size w ((w.alloc (.cells #[.int .i64 2, .string y.own, .int .i64 y.name, .slice alg y.lgn clg, .int .i64 y.pe, .int .i64 y.len, .int .i64 y.hei, .int .i64 y.cl, .bool y.all, .int .i64 y.be, .int .i64 y.unt, .int .i64 y.now] 27)).alloc (.cells #[.int .i64 0, .int .i64 0, .int .i64 0, .slice none 0 0] 127)) := push (push (Below.refl _ _) _) _
  have bO := blk_alloc (heap_alloc_new w (.cells #[.int .i64 2, .string y.own, .int .i64 y.name, .slice alg y.lgn clg, .int .i64 y.pe, .int .i64 y.len, .int .i64 y.hei, .int .i64 y.cl, .bool y.all, .int .i64 y.be, .int .i64 y.unt, .int .i64 y.now] 27)) (.cells #[.int .i64 0, .int .i64 0, .int .i64 0, .slice none 0 0] 127)
  have bA := new2 w (.cells #[.int .i64 2, .string y.own, .int .i64 y.name, .slice alg y.lgn clg, .int .i64 y.pe, .int .i64 y.len, .int .i64 y.hei, .int .i64 y.cl, .bool y.all, .int .i64 y.be, .int .i64 y.unt, .int .i64 y.now] 27) (.cells #[.int .i64 0, .int .i64 0, .int .i64 0, .slice none 0 0] 127)
  go_enter Tryz.func123, Tryz.ntmps123
  go_wp2_with fail
  generalize ((w.alloc (.cells #[.int .i64 2, .string y.own, .int .i64 y.name, .slice alg y.lgn clg, .int .i64 y.pe, .int .i64 y.len, .int .i64 y.hei, .int .i64 y.cl, .bool y.all, .int .i64 y.be, .int .i64 y.unt, .int .i64 y.now] 27)).alloc (.cells #[.int .i64 0, .int .i64 0, .int .i64 0, .slice none 0 0] 127)) = W at hb0 bO bA ⊢
  refine (l6Price0_any y.pe y.len y.hei y.cl y.all y.be (y.lgn : Int) _ hpe (by unfold In; omega)).mono ?_
  rintro e V ⟨rfl, hbv⟩
  rw [← hpr]
  clear hpr
  replace hb0 := after hb0 hbv
  replace bO := blk_below bO hbv
  replace bA := blk_below bA hbv
  clear hbv W
  have o0 := blk_cell bO 0 _ rfl
  have zq := blk_cell (blk_below HQ.out hb0) 2 _ rfl
  obtain ⟨HOF, hQF, HKF, bF⟩ := end_fin (T := (fun _ => False)) (Kept.of_below hb0) (HO.out.below hb0) (blk_below HQ.out hb0) bA (by omega) (.int .i64 8) (.int .i64 0) (.int .i64 0) (.slice none 0 0) rfl
  have v0 := blk_cell bA 0 _ rfl
  have e0 := blk_free bA 0
  have v1 := blk_cell bA 1 _ rfl
  have e1 := blk_free bA 1
  have v2 := blk_cell bA 2 _ rfl
  have e2 := blk_free bA 2
  have v3 := blk_cell bA 3 _ rfl
  have e3 := blk_free bA 3
  have HEND : Hid _ := HOF
  have HEQ : Hid _ := hQF
  have HEK : Hid _ := HKF
  clear HOF hQF HKF
  go_wp2
  have x0 := blk_cell bF 0 _ rfl
  have x1 := blk_cell bF 1 _ rfl
  have x2 := blk_cell bF 2 _ rfl
  have x3 := blk_cell bF 3 _ rfl
  refine bodyPost_ret (v := .agg #[.int .i64 8, .int .i64 0, .int .i64 0, .slice none 0 0]) (by simp [results, Tryz.results123, go_sem, x0, x1, x2, x3]) rfl ?_
  exact ⟨_, _, _, _, rfl, rfl, by rw [HXB.out]; exact HEND.out, by rw [HXB.out]; exact HEQ.out, HEK.out⟩

end Go.Proofs.YtfallpinmhbemaaGreatDoor

namespace Go.Proofs.YtfallpinmhbemaaGreatDoor
open Go.RowKit

set_option maxHeartbeats 25600000 in
set_option maxRecDepth 100000 in
theorem l7End_3f (g base N R csa cld cbk clg : Nat) (asa ald abk alg : Option Addr) (bys : Int) (y : OpD) (x : Off) (L C A B D E : Nat → Value) (w : World) (hq : w.heap[g]? = some (.cells #[.slice asa N csa, .slice ald N cld, .slice abk R cbk] 66 (0, 0))) (ho : OwnOff w base (.slice asa N csa) (.slice ald N cld) (.slice abk R cbk) N N R x L C A B D E) (hxb : x.bkn = R) (hbw : base ≤ w.heap.size) (hkd : y.kind = 3) (hpe : In y.pe 0 20) (hln : y.lgn ≤ 3) (hlg : IntsAt w alg y.lgn y.lg) (hsl : SliceOk alg y.lgn clg) (hlo : 0 < y.lgn → ∀ a, alg = some a → a.block < base) (hR : R = 30) :
    Calls Tryz.prog 123 #[.pointer (some ⟨g, 0, none⟩), .int .i64 bys, .agg #[.int .i64 y.kind, .string y.own, .int .i64 y.name, .slice alg y.lgn clg, .int .i64 y.pe, .int .i64 y.len, .int .i64 y.hei, .int .i64 y.cl, .bool y.all, .int .i64 y.be, .int .i64 y.unt, .int .i64 y.now]] w fun e w' => EndIs g base N csa cld asa ald (fun _ => False) x 8 0 0 (fun _ v => v = .slice none 0 0) L C A B D w e w' := by
  subst hR
  rw [hkd]
  have HO : Hid (OwnOff w base (.slice asa N csa) (.slice ald N cld) (.slice abk 30 cbk) N N 30 x L C A B D E) := ho
  have HQ : Hid (w.heap[g]? = some (.cells #[.slice asa N csa, .slice ald N cld, .slice abk 30 cbk] 66 (0, 0))) := hq
  have HKD : Hid (y.kind = 3) := hkd
  have HXB : Hid (x.bkn = 30) := hxb
  have HBW : Hid (base ≤ w.heap.size) := hbw
  have HLG : Hid (IntsAt w alg y.lgn y.lg) := hlg
  have HSL : Hid (SliceOk alg y.lgn clg) := hsl
  have HLO : Hid (0 < y.lgn → ∀ a, alg = some a → a.block < base) := hlo
  clear ho hq hkd hxb hbw hlg hsl hlo
  obtain ⟨pr, hpr⟩ : ∃ pr, pr = priceOf ⟨y.pe, y.len, y.hei, y.cl, y.all, y.be⟩ (y.lgn : Int) := ⟨_, rfl⟩
  have HPR : Hid (pr = priceOf ⟨y.pe, y.len, y.hei, y.cl, y.all, y.be⟩ (y.lgn : Int)) := hpr
  have hb0 : Below w.heap.size w ((w.alloc (.cells #[.int .i64 3, .string y.own, .int .i64 y.name, .slice alg y.lgn clg, .int .i64 y.pe, .int .i64 y.len, .int .i64 y.hei, .int .i64 y.cl, .bool y.all, .int .i64 y.be, .int .i64 y.unt, .int .i64 y.now] 27)).alloc (.cells #[.int .i64 0, .int .i64 0, .int .i64 0, .slice none 0 0] 127)) := push (push (Below.refl _ _) _) _
  have bO := blk_alloc (heap_alloc_new w (.cells #[.int .i64 3, .string y.own, .int .i64 y.name, .slice alg y.lgn clg, .int .i64 y.pe, .int .i64 y.len, .int .i64 y.hei, .int .i64 y.cl, .bool y.all, .int .i64 y.be, .int .i64 y.unt, .int .i64 y.now] 27)) (.cells #[.int .i64 0, .int .i64 0, .int .i64 0, .slice none 0 0] 127)
  have bA := new2 w (.cells #[.int .i64 3, .string y.own, .int .i64 y.name, .slice alg y.lgn clg, .int .i64 y.pe, .int .i64 y.len, .int .i64 y.hei, .int .i64 y.cl, .bool y.all, .int .i64 y.be, .int .i64 y.unt, .int .i64 y.now] 27) (.cells #[.int .i64 0, .int .i64 0, .int .i64 0, .slice none 0 0] 127)
  go_enter Tryz.func123, Tryz.ntmps123
  go_wp2_with fail
  generalize ((w.alloc (.cells #[.int .i64 3, .string y.own, .int .i64 y.name, .slice alg y.lgn clg, .int .i64 y.pe, .int .i64 y.len, .int .i64 y.hei, .int .i64 y.cl, .bool y.all, .int .i64 y.be, .int .i64 y.unt, .int .i64 y.now] 27)).alloc (.cells #[.int .i64 0, .int .i64 0, .int .i64 0, .slice none 0 0] 127)) = W at hb0 bO bA ⊢
  refine (l6Price0_any y.pe y.len y.hei y.cl y.all y.be (y.lgn : Int) _ hpe (by unfold In; omega)).mono ?_
  rintro e V ⟨rfl, hbv⟩
  rw [← hpr]
  clear hpr
  replace hb0 := after hb0 hbv
  replace bO := blk_below bO hbv
  replace bA := blk_below bA hbv
  clear hbv W
  have o0 := blk_cell bO 0 _ rfl
  have zq := blk_cell (blk_below HQ.out hb0) 2 _ rfl
  obtain ⟨HOF, hQF, HKF, bF⟩ := end_fin (T := (fun _ => False)) (Kept.of_below hb0) (HO.out.below hb0) (blk_below HQ.out hb0) bA (by omega) (.int .i64 8) (.int .i64 0) (.int .i64 0) (.slice none 0 0) rfl
  have v0 := blk_cell bA 0 _ rfl
  have e0 := blk_free bA 0
  have v1 := blk_cell bA 1 _ rfl
  have e1 := blk_free bA 1
  have v2 := blk_cell bA 2 _ rfl
  have e2 := blk_free bA 2
  have v3 := blk_cell bA 3 _ rfl
  have e3 := blk_free bA 3
  have HEND : Hid _ := HOF
  have HEQ : Hid _ := hQF
  have HEK : Hid _ := HKF
  clear HOF hQF HKF
  go_wp2
  have x0 := blk_cell bF 0 _ rfl
  have x1 := blk_cell bF 1 _ rfl
  have x2 := blk_cell bF 2 _ rfl
  have x3 := blk_cell bF 3 _ rfl
  refine bodyPost_ret (v := .agg #[.int .i64 8, .int .i64 0, .int .i64 0, .slice none 0 0]) (by simp [results, Tryz.results123, go_sem, x0, x1, x2, x3]) rfl ?_
  exact ⟨_, _, _, _, rfl, rfl, by rw [HXB.out]; exact HEND.out, by rw [HXB.out]; exact HEQ.out, HEK.out⟩

end Go.Proofs.YtfallpinmhbemaaGreatDoor

namespace Go.Proofs.YtfallpinmhbemaaGreatDoor
open Go.RowKit

structure MRow where
  name : Int
  own : ByteArray
  pe : Int
  ln : Int
  cab : Int
def MRow.zero : MRow := ⟨0, ⟨#[]⟩, 0, 0, 0⟩
instance : Inhabited MRow := ⟨MRow.zero⟩
/-- The record as a value. -/
def MRow.v (s : MRow) : Value := .agg #[.int .i64 s.name, .string s.own, .int .i64 s.pe, .int .i64 s.ln, .int .i64 s.cab]
/-- The slice at ao reads as n records. -/
def MRowsAt (w : World) (ao : Option Addr) (n : Nat) (S : Nat → MRow) : Prop :=
  ∀ k, k < n → ∃ b off, ao = some ⟨b, off, none⟩ ∧ w.cell? ⟨b, off + k * 5, none⟩ = some (.int .i64 (S k).name) ∧ w.cell? ⟨b, off + k * 5 + 1, none⟩ = some (.string (S k).own) ∧ w.cell? ⟨b, off + k * 5 + 2, none⟩ = some (.int .i64 (S k).pe) ∧ w.cell? ⟨b, off + k * 5 + 3, none⟩ = some (.int .i64 (S k).ln) ∧ w.cell? ⟨b, off + k * 5 + 4, none⟩ = some (.int .i64 (S k).cab)
theorem MRowsAt.below {w w' : World} {ao : Option Addr} {n : Nat} {S : Nat → MRow} (h : MRowsAt w ao n S) (hb : Below w.heap.size w w') : MRowsAt w' ao n S := by
  intro k hk
  obtain ⟨b, off, e, h0, h1, h2, h3, h4⟩ := h k hk
  have hlt : b < w.heap.size := World.block_lt_of_cell? w _ h0
  exact ⟨b, off, e, (hb.cell hlt).trans h0, (hb.cell hlt).trans h1, (hb.cell hlt).trans h2, (hb.cell hlt).trans h3, (hb.cell hlt).trans h4⟩
theorem MRowsAt.upto {w : World} {ao : Option Addr} {n i : Nat} {S : Nat → MRow} (h : MRowsAt w ao n S) (hi : i ≤ n) : MRowsAt w ao i S := fun k hk => h k (by omega)
/-- The cell j of a row of records. -/
def rowCell (S : Nat → MRow) (j : Nat) : Value :=
  if j % 5 = 0 then .int .i64 (S (j / 5)).name else if j % 5 = 1 then .string (S (j / 5)).own else if j % 5 = 2 then .int .i64 (S (j / 5)).pe else if j % 5 = 3 then .int .i64 (S (j / 5)).ln else .int .i64 (S (j / 5)).cab
theorem rowCell_0 (S : Nat → MRow) (k : Nat) : rowCell S (k * 5) = .int .i64 (S k).name := by
  unfold rowCell; rw [if_pos (by omega), show k * 5 / 5 = k by omega]
theorem rowCell_1 (S : Nat → MRow) (k : Nat) : rowCell S (k * 5 + 1) = .string (S k).own := by
  unfold rowCell; rw [if_neg (by omega), if_pos (by omega), show (k * 5 + 1) / 5 = k by omega]
theorem rowCell_2 (S : Nat → MRow) (k : Nat) : rowCell S (k * 5 + 2) = .int .i64 (S k).pe := by
  unfold rowCell; rw [if_neg (by omega), if_neg (by omega), if_pos (by omega), show (k * 5 + 2) / 5 = k by omega]
theorem rowCell_3 (S : Nat → MRow) (k : Nat) : rowCell S (k * 5 + 3) = .int .i64 (S k).ln := by
  unfold rowCell; rw [if_neg (by omega), if_neg (by omega), if_neg (by omega), if_pos (by omega), show (k * 5 + 3) / 5 = k by omega]
theorem rowCell_4 (S : Nat → MRow) (k : Nat) : rowCell S (k * 5 + 4) = .int .i64 (S k).cab := by
  unfold rowCell; rw [if_neg (by omega), if_neg (by omega), if_neg (by omega), if_neg (by omega), show (k * 5 + 4) / 5 = k by omega]
theorem MRowsAt.of_row {w : World} {g t n : Nat} {S : Nat → MRow} (h : w.rowIs g t (n * 5) (rowCell S)) : MRowsAt w (some ⟨g, 0, none⟩) n S := by
  intro k hk
  refine ⟨g, 0, rfl, ?_, ?_, ?_, ?_, ?_⟩
  · rw [Nat.zero_add, h.cell (by omega), rowCell_0]
  · rw [Nat.zero_add, h.cell (by omega), rowCell_1]
  · rw [Nat.zero_add, h.cell (by omega), rowCell_2]
  · rw [Nat.zero_add, h.cell (by omega), rowCell_3]
  · rw [Nat.zero_add, h.cell (by omega), rowCell_4]
theorem made_rows (n : Nat) (j : Nat) (hj : j < n * 5) : (madeCells (Value.agg #[.int .i64 0, .string ⟨#[]⟩, .int .i64 0, .int .i64 0, .int .i64 0]).cells (n * 5)).toList.getD j (.bool false) = rowCell (fun _ => MRow.zero) j := by
  have hz : (Value.agg #[.int .i64 0, .string ⟨#[]⟩, .int .i64 0, .int .i64 0, .int .i64 0]).cells = #[.int .i64 0, .string ⟨#[]⟩, .int .i64 0, .int .i64 0, .int .i64 0] := rfl
  rw [hz]
  simp only [madeCells, Array.toList_map, List.getD_eq_getElem?_getD, List.getElem?_map, Array.toList_range, List.getElem?_range hj, Option.map_some, Option.getD_some]
  unfold rowCell
  have : j % 5 = 0 ∨ j % 5 = 1 ∨ j % 5 = 2 ∨ j % 5 = 3 ∨ j % 5 = 4 := by omega
  rcases this with h | h | h | h | h <;> simp [h, MRow.zero]
/-- A record is stored into a row. -/
theorem row_set {w : World} {g t n k : Nat} {S S' : Nat → MRow} (h : w.rowIs g t n (rowCell S)) (hS : ∀ i, i ≠ k → S' i = S i) :
    (((((w.setCell ⟨g, k * 5, none⟩ (.int .i64 (S' k).name)).setCell ⟨g, k * 5 + 1, none⟩ (.string (S' k).own)).setCell ⟨g, k * 5 + 2, none⟩ (.int .i64 (S' k).pe)).setCell ⟨g, k * 5 + 3, none⟩ (.int .i64 (S' k).ln)).setCell ⟨g, k * 5 + 4, none⟩ (.int .i64 (S' k).cab)).rowIs g t n (rowCell S') := by
  refine (((((h.set (k * 5) _).set (k * 5 + 1) _).set (k * 5 + 2) _).set (k * 5 + 3) _).set (k * 5 + 4) _).congr fun j _ => ?_
  by_cases h4 : j = k * 5 + 4
  · subst h4; rw [if_pos rfl, rowCell_4]
  rw [if_neg h4]
  by_cases h3 : j = k * 5 + 3
  · subst h3; rw [if_pos rfl, rowCell_3]
  rw [if_neg h3]
  by_cases h2 : j = k * 5 + 2
  · subst h2; rw [if_pos rfl, rowCell_2]
  rw [if_neg h2]
  by_cases h1 : j = k * 5 + 1
  · subst h1; rw [if_pos rfl, rowCell_1]
  rw [if_neg h1]
  by_cases h0 : j = k * 5
  · subst h0; rw [if_pos rfl, rowCell_0]
  rw [if_neg h0]
  have hk : j / 5 ≠ k := by omega
  unfold rowCell
  rw [hS _ hk]
/-- The cells of the first n records. -/
def rowList (S : Nat → MRow) (n : Nat) : List Value := (List.range (n * 5)).map (rowCell S)
theorem rowList_length (S : Nat → MRow) (n : Nat) : (rowList S n).length = n * 5 := by simp [rowList]
theorem rowList_get {S : Nat → MRow} {n j : Nat} {u : Value} (h : (rowList S n)[j]? = some u) : j < n * 5 ∧ u = rowCell S j := by
  unfold rowList at h
  rw [List.getElem?_map] at h
  by_cases hj : j < n * 5
  · rw [List.getElem?_range hj] at h; simp at h; exact ⟨hj, h.symm⟩
  · rw [List.getElem?_eq_none (by simpa using hj)] at h; cases h
theorem rowList_one (S : Nat → MRow) (n : Nat) : ∀ u ∈ rowList S n, u.oneCell' = true := by
  intro u hu
  unfold rowList at hu
  simp only [List.mem_map] at hu
  obtain ⟨j, _, rfl⟩ := hu
  unfold rowCell
  repeat' split
  all_goals rfl
theorem rowList_succ (S : Nat → MRow) (k : Nat) : rowList S (k + 1) = rowList S k ++ [.int .i64 (S k).name, .string (S k).own, .int .i64 (S k).pe, .int .i64 (S k).ln, .int .i64 (S k).cab] := by
  unfold rowList
  rw [show (k + 1) * 5 = k * 5 + 1 + 1 + 1 + 1 + 1 by omega, List.range_succ, List.range_succ, List.range_succ, List.range_succ, List.range_succ]
  simp only [List.map_append, List.map_cons, List.map_nil, List.append_assoc, List.cons_append, List.nil_append, rowCell_0, rowCell_1, rowCell_2, rowCell_3, rowCell_4]
theorem rowList_congr {S S' : Nat → MRow} {n : Nat} (h : ∀ i, i < n → S i = S' i) : rowList S n = rowList S' n := by
  unfold rowList
  refine List.map_congr_left (fun j hj => ?_)
  have hj' : j < n * 5 := by simpa using hj
  unfold rowCell
  rw [h (j / 5) (by omega)]
/-- n records of S and then those of T. -/
def rowCat (S : Nat → MRow) (n : Nat) (T : Nat → MRow) (i : Nat) : MRow := if i < n then S i else T (i - n)
theorem rowList_cat (S T : Nat → MRow) (n j : Nat) : rowList (rowCat S n T) (n + j) = rowList S n ++ rowList T j := by
  induction j with
  | zero =>
    have : rowList T 0 = [] := by simp [rowList]
    rw [this, List.append_nil, Nat.add_zero]
    exact rowList_congr (fun i hi => if_pos hi)
  | succ j ih =>
    rw [show n + (j + 1) = n + j + 1 by omega, rowList_succ, rowList_succ, ih, List.append_assoc]
    have : rowCat S n T (n + j) = T j := by unfold rowCat; rw [if_neg (by omega), show n + j - n = j by omega]
    rw [this]
/-- The cells of a list, read at its address. -/
theorem rows_cells {w : World} {ao : Option Addr} {n : Nat} {S : Nat → MRow} (h : MRowsAt w ao n S) : ∀ ad, ao = some ad → ∀ j u, (rowList S n)[j]? = some u → w.cell? (ad.add j) = some u := by
  intro ad e j u hu
  obtain ⟨hj, rfl⟩ := rowList_get hu
  obtain ⟨b, off, e', h0, h1, h2, h3, h4⟩ := h (j / 5) (by omega)
  rw [e] at e'
  simp only [Option.some.injEq] at e'
  subst e'
  rw [Addr.add_lit]
  have hm : j % 5 = 0 ∨ j % 5 = 1 ∨ j % 5 = 2 ∨ j % 5 = 3 ∨ j % 5 = 4 := by omega
  rcases hm with hm | hm | hm | hm | hm
  · rw [show off + j = off + j / 5 * 5 by omega, h0]; unfold rowCell; simp [hm]
  · rw [show off + j = off + j / 5 * 5 + 1 by omega, h1]; unfold rowCell; simp [hm]
  · rw [show off + j = off + j / 5 * 5 + 2 by omega, h2]; unfold rowCell; simp [hm]
  · rw [show off + j = off + j / 5 * 5 + 3 by omega, h3]; unfold rowCell; simp [hm]
  · rw [show off + j = off + j / 5 * 5 + 4 by omega, h4]; unfold rowCell; simp [hm]
theorem rows_of_own {w : World} {base e n c : Nat} {ao : Option Addr} {S : Nat → MRow} (h : w.ownsRow base e 5 (.slice ao n c) n (rowList S n)) : MRowsAt w ao n S := by
  intro k hk
  obtain ⟨g, rfl, _, _⟩ := own_addr h (by omega)
  have c0 := own_cell h (k * 5) (by omega) rfl
  rw [rowCell_0] at c0
  have c1 := own_cell h (k * 5 + 1) (by omega) rfl
  rw [rowCell_1] at c1
  have c2 := own_cell h (k * 5 + 2) (by omega) rfl
  rw [rowCell_2] at c2
  have c3 := own_cell h (k * 5 + 3) (by omega) rfl
  rw [rowCell_3] at c3
  have c4 := own_cell h (k * 5 + 4) (by omega) rfl
  rw [rowCell_4] at c4
  exact ⟨g, 0, rfl, by rw [Nat.zero_add]; exact c0, by rw [Nat.zero_add]; exact c1, by rw [Nat.zero_add]; exact c2, by rw [Nat.zero_add]; exact c3, by rw [Nat.zero_add]; exact c4⟩
/-- Records with their address written out. -/
theorem rows_in {w : World} {ao : Option Addr} {n : Nat} {S : Nat → MRow} (h : MRowsAt w ao n S) : n = 0 ∨ ∃ b off, ao = some ⟨b, off, none⟩ ∧ b < w.heap.size := by
  by_cases h0 : n = 0
  · exact .inl h0
  · obtain ⟨b, off, rfl, h1, _⟩ := h 0 (by omega)
    exact .inr ⟨b, off, rfl, World.block_lt_of_cell? w _ h1⟩

end Go.Proofs.YtfallpinmhbemaaGreatDoor

namespace Go.Proofs.YtfallpinmhbemaaGreatDoor
open Go.RowKit Classical

def lastLn (S : Nat → Stay) (q : Int) : Nat → Int
  | 0 => -1
  | n + 1 => if (S n).who = q then (S n).ln else lastLn S q n
def lastCab (S : Nat → Room) (q : Int) : Nat → Int
  | 0 => -1
  | n + 1 => if (S n).who = q then (S n).cab else lastCab S q n
/-- The row of the booking b in the load l. -/
def rowOf (l : Load) (b : Book) : MRow := ⟨b.name, b.own, b.pe, lastLn l.st b.who l.stn, lastCab l.ro b.who l.ron⟩
def OnZ (b : Book) (z : Int) : Prop := Live b ∧ HasLeg b z
/-- The rows of the first n bookings. -/
noncomputable def rowsL (l : Load) (S : Nat → Book) (z : Int) : Nat → List MRow
  | 0 => []
  | n + 1 => if OnZ (S n) z then rowsL l S z n ++ [rowOf l (S n)] else rowsL l S z n
theorem rowsL_yes {l : Load} {S : Nat → Book} {z : Int} {n : Nat} (h : OnZ (S n) z) : rowsL l S z (n + 1) = rowsL l S z n ++ [rowOf l (S n)] := by rw [rowsL, if_pos h]
theorem rowsL_no {l : Load} {S : Nat → Book} {z : Int} {n : Nat} (h : ¬ OnZ (S n) z) : rowsL l S z (n + 1) = rowsL l S z n := by rw [rowsL, if_neg h]
theorem rowsL_le (l : Load) (S : Nat → Book) (z : Int) (n : Nat) : (rowsL l S z n).length ≤ n := by
  induction n with
  | zero => exact Nat.le_refl _
  | succ n ih =>
    by_cases h : OnZ (S n) z
    · rw [rowsL_yes h, List.length_append]; simp; omega
    · rw [rowsL_no h]; omega
def nthR (l : List MRow) (j : Nat) : MRow := l.getD j MRow.zero
theorem rowList_snoc (l : List MRow) (r : MRow) : rowList (nthR (l ++ [r])) (l.length + 1) = rowList (nthR l) l.length ++ [.int .i64 r.name, .string r.own, .int .i64 r.pe, .int .i64 r.ln, .int .i64 r.cab] := by
  rw [rowList_succ]
  have e1 : nthR (l ++ [r]) l.length = r := by simp [nthR]
  have e2 : rowList (nthR (l ++ [r])) l.length = rowList (nthR l) l.length := rowList_congr (fun i hi => by unfold nthR; rw [List.getD_eq_getElem?_getD, List.getD_eq_getElem?_getD, List.getElem?_append_left hi])
  rw [e1, e2]

end Go.Proofs.YtfallpinmhbemaaGreatDoor

namespace Go.Proofs.YtfallpinmhbemaaGreatDoor
open Go.RowKit

theorem Tryz.infoRow : (Tryz.prog.info? 212).map (fun i => (i.zero, i.size, i.bytes)) = some (some (.agg #[.int .i64 0, .string ⟨#[]⟩, .int .i64 0, .int .i64 0, .int .i64 0]), 5, 48) := by kernel_rfl

end Go.Proofs.YtfallpinmhbemaaGreatDoor
