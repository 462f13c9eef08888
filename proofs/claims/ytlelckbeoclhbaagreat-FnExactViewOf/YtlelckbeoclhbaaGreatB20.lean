/-
  OWN TEXT: ConcatI, RouteI, FitI, AsksI.
-/
import Derived.Deep.LoopGhost
import Derived.Lib.AppendZeros
import Derived.Deep.RegionHeld3
import Derived.Deep.DeepCutAuto
import Derived.Deep.RegionWith
import Derived.Test.YtlelckbeoclhbaaGreatB02
import Derived.Test.YtlelckbeoclhbaaGreatB10
import Derived.Test.YtlelckbeoclhbaaGreatB19
import Derived.Test.YtlelckbeoclhbaaGreatB17
import Derived.Test.YtlelckbeoclhbaaGreatB07
set_option maxHeartbeats 12800000
set_option maxRecDepth 100000
namespace Go.Proofs.YtlelckbeoclhbaaGreat
open Go.RowKit
theorem growI_nil (k : Nat) (w : World) (h0 : 0 < k) (hk : k ≤ 4194304) :
    Calls Tryz.prog 180 #[.slice none 0 0, .int .i64 k] w fun e w' => (∃ v, e = .returned v ∧ w'.ownsRow w.heap.size 3 1 v 0 []) ∧ Below w.heap.size w w' := by
  obtain ⟨j0, ji, jz0, jz1, jz2⟩ := info_parts Tryz.infoInt
  have hrun := Lib.run_append_nil_zeros (P := Tryz.prog) w 31 3 31 3 j0 (.int .i64 0) .i64 .i64 Tryz.underlying31 Tryz.underlying3 ji jz0 k h0 (by omega) (by omega) (by rw [jz2]; omega)
  have d0 : decide ((k : Int) < 0) = false := by simp
  have d1 : decide (0 < k) = true := by simpa using h0
  go_enter Tryz.func180, Tryz.ntmps180
  go_wp2_with (first | (at_builtin; refine Lib.wpList_append_run _ rfl _ _ _ _ rfl _ _ rfl rfl _ _ hrun ?_))
  go_ret
  have hge := grownCap_ge w k 0 3
  refine ⟨⟨_, rfl, rfl, .inr ⟨w.heap.size, _, _, rfl, Nat.le_refl _, heap_alloc_new w _, Nat.zero_le _, grownCap_le_maxLen w k 0 _ (by unfold maxLen; omega), ?_, rfl⟩⟩, (push (Below.refl _ w) _).drew⟩
  rw [Array.size_append, size_zeroCells, size_zeroCells]
  show k * 1 + (_ - k) * 1 = _ * 1
  omega
def cumI (n r : Nat) : Nat := if r = 0 then 0 else if r = 1 then n else n + 1
def partI (ls : List Int) (x : Int) (r : Nat) : List Int := if r = 0 then [] else if r = 1 then ls else ls ++ [x]
theorem concat_legs (lb qb : Nat) (ha : Option Addr) (n hc : Nat) (ls : List Int) (x : Int) (w : World) (e1 : ls.length = n) (hn : n ≤ 1048576)
    (hlb : w.heap[lb]? = some (.cells #[.slice ha n hc, .slice (some ⟨qb, 0, none⟩) 1 1] 31 (0, 0))) (hx : IntsAt w ha n (getI ls)) (hy : w.cell? ⟨qb, 0, none⟩ = some (.int .i64 x)) (hna : ha = none → n = 0 ∧ hc = 0) :
    Calls Tryz.prog 179 #[.slice (some ⟨lb, 0, none⟩) 2 2] w fun e w' => (∃ ao' c', e = .returned (.slice ao' (n + 1) c') ∧ w'.ownsRow w.heap.size 3 1 (.slice ao' (n + 1) c') (n + 1) (cellsI (ls ++ [x]))) ∧ Below w.heap.size w w' := by
  obtain ⟨j0, ji, jz0, jz1, jz2⟩ := info_parts Tryz.infoInt
  have E1 : Hid (ls.length = n) := e1
  have hqb := World.block_lt_of_cell? w _ hy
  have HX : Hid (IntsAt w ha ls.length (getI ls)) := by rw [Hid, e1]; exact hx
  clear e1 hx
  have p0 : w.cell? ⟨lb, 0, none⟩ = some (.slice ha n hc) := blk_cell hlb 0 _ rfl
  have p1 : w.cell? ⟨lb, 1, none⟩ = some (.slice (some ⟨qb, 0, none⟩) 1 1) := blk_cell hlb 1 _ rfl
  have c0 : cumI n 0 = 0 := rfl
  have c1 : cumI n 1 = n := rfl
  have c2 : cumI n 2 = n + 1 := rfl
  go_enter Tryz.func179, Tryz.ntmps179
  go_wp2
  go_loopg [3, 5, 11] 2 (fun g s _ i wr => ∃ r : Nat, r ≤ 2 ∧ g = 2 - r ∧ i = .int .i64 r ∧ s = .int .i64 (cumI n r) ∧ wr = w)
  case atStart => exact ⟨0, by omega, rfl, rfl, rfl, rfl⟩
  case round =>
    obtain ⟨r, hr, rfl, rfl, rfl, hwr⟩ := hrel
    have hwr' := hwr.symm
    subst hwr'
    clear hwr
    have hc3 : r = 0 ∨ r = 1 ∨ r = 2 := by omega
    rcases hc3 with rfl | rfl | rfl
    · go_wp2
      go_roundg 1
      case measure => omega
      case rel => exact ⟨1, by omega, rfl, by go_num, by rw [c1], rfl⟩
    · have hd : decide ((n : Int) + 1 < 0) = false := by simp; omega
      go_wp2
      go_roundg 0
      case measure => omega
      case rel => exact ⟨2, by omega, rfl, by go_num, by rw [c2]; go_num, rfl⟩
    · go_wp2_with fail
      refine (growI_nil (n + 1) _ (by omega) (by omega)).mono ?_
      rintro e w1 ⟨⟨v, rfl, ho1⟩, hb1⟩
      clear p0 p1
      go_wp2
      go_loopg [6, 8, 27] 2 (fun g u _ i wr => ∃ r : Nat, r ≤ 2 ∧ g = 2 - r ∧ i = .int .i64 r ∧ wr.ownsRow w.heap.size 3 1 u (cumI n r) (cellsI (partI ls x r)) ∧ Below w.heap.size w wr)
      case atStart => exact ⟨0, by omega, rfl, rfl, ho1, hb1⟩
      case round =>
        obtain ⟨r, hr, rfl, rfl, ho, hbel⟩ := hrel
        obtain ⟨w2, ew2⟩ : ∃ x, x = wr := ⟨_, rfl⟩
        subst ew2
        have hsz := hbel.size
        have hlb2 := blk_below hlb hbel
        have p0 : w2.cell? ⟨lb, 0, none⟩ = some (.slice ha n hc) := blk_cell hlb2 0 _ rfl
        have p1 : w2.cell? ⟨lb, 1, none⟩ = some (.slice (some ⟨qb, 0, none⟩) 1 1) := blk_cell hlb2 1 _ rfl
        have hc3 : r = 0 ∨ r = 1 ∨ r = 2 := by omega
        rcases hc3 with rfl | rfl | rfl
        · have HC : Hid (∀ ad, ha = some ad → ∀ j u, (cellsI ls)[j]? = some u → w2.cell? (ad.add j) = some u) := ints_cells (HX.out.below hbel)
          go_wp2_with (first | (at_builtin; refine wpList_append_any _ (by rfl) (.tmp 31) (.tmp 32) 31 (by rfl) w.heap.size 3 j0 (.int .i64 0) 1 8 Tryz.underlying31 ji jz0 jz1 jz2 rfl (by decide) _ 0 [] (by rfl) ho ha n hc (cellsI ls) (by rfl) hna (by rw [cellsI_length, E1.out, Nat.mul_one]) HC.out (cellsI_one ls) (by unfold maxLen; omega) (by omega) hsz ?_; intro v' w3 ho3 hg3))
          go_roundg 1
          case measure => omega
          case rel => exact ⟨1, by omega, rfl, by go_num, by
            rw [c1]; rw [Nat.zero_add, List.nil_append] at ho3; exact ho3, hbel.grown hg3 hsz (fun j hj => (ho.lt j hj).1)⟩
        · have HC : Hid (∀ ad, (some ⟨qb, 0, none⟩ : Option Addr) = some ad → ∀ j u, (cellsI [x])[j]? = some u → w2.cell? (ad.add j) = some u) := by
            intro ad e j u hu
            cases e
            obtain ⟨hj, rfl⟩ := intList_get _ _ _ _ hu
            obtain rfl : j = 0 := by simpa using hj
            exact (hbel.cell (p := ⟨qb, 0, none⟩) hqb).trans hy
          have ho' : w2.ownsRow w.heap.size 3 1 u6 n (cellsI ls) := ho
          clear ho
          go_wp2_with (first | (at_builtin; refine wpList_append_any _ (by rfl) (.tmp 31) (.tmp 32) 31 (by rfl) w.heap.size 3 j0 (.int .i64 0) 1 8 Tryz.underlying31 ji jz0 jz1 jz2 rfl (by decide) _ n (cellsI ls) (by rfl) ho' (some ⟨qb, 0, none⟩) 1 1 (cellsI [x]) (by rfl) (fun h => (by cases h)) (by rw [cellsI_length]; rfl) HC.out (cellsI_one _) (by unfold maxLen; omega) (by omega) hsz ?_; intro v' w3 ho3 hg3))
          go_roundg 0
          case measure => omega
          case rel => exact ⟨2, by omega, rfl, by go_num, by
            rw [c2]
            have : cellsI (partI ls x 2) = cellsI ls ++ cellsI [x] := cellsI_append _ _
            rw [this]; exact ho3, hbel.grown hg3 hsz (fun j hj => (ho'.lt j hj).1)⟩
        · rw [c2] at ho
          have ho' : w2.ownsRow w.heap.size 3 1 u6 (n + 1) (cellsI (ls ++ [x])) := ho
          clear ho
          obtain ⟨ao', c', rfl, _⟩ := own_form ho'
          go_wp2
          go_ret
          exact ⟨⟨ao', c', rfl, ho'⟩, hbel⟩
end Go.Proofs.YtlelckbeoclhbaaGreat

namespace Go.Proofs.YtlelckbeoclhbaaGreat
open Go.RowKit
def catchB (pl : ByteArray) (t : Int) (fr : ByteArray) (d : Int) : Bool := (fr.toList == pl.toList) && decide (t ≤ d)
theorem catchB_iff {pl fr : ByteArray} {t d : Int} : catchB pl t fr d = true ↔ fr = pl ∧ t ≤ d := by
  unfold catchB
  rw [Bool.and_eq_true, bytes_eq, decide_eq_true_iff]
theorem catches_is (la : Option Addr) (n lc : Nat) (pl : ByteArray) (t x d a mo : Int) (fr tt : ByteArray) (lo co : Option Addr) (m1 m2 c1 c2 : Nat) (w : World) :
    Calls Tryz.prog 172 #[.agg #[.slice la n lc, .string pl, .int .i64 t], .agg #[.int .i64 x, .string fr, .string tt, .int .i64 d, .int .i64 a, .slice lo m1 c1, .slice co m2 c2, .int .i64 mo]] w fun e w' => e = .returned (.bool (catchB pl t fr d)) ∧ Below w.heap.size w w' := by
  obtain ⟨q, hq⟩ : ∃ q, q = catchB pl t fr d := ⟨_, rfl⟩
  rw [← hq]
  have HC : Hid (q = catchB pl t fr d) := hq
  clear hq
  by_cases h1 : fr = pl
  · have e1 : (fr.toList == pl.toList) = true := bytes_eq.2 h1
    have H1 : Hid (fr = pl) := h1
    clear h1
    by_cases h2 : t ≤ d
    · have e2 : decide (t ≤ d) = true := by simpa using h2
      go_enter Tryz.func172, Tryz.ntmps172
      go_wp2
      go_ret
      exact ⟨by rw [HC.out, catchB_iff.2 ⟨H1.out, h2⟩]; rfl, push (push (Below.refl _ _) _) _⟩
    · have e2 : decide (t ≤ d) = false := by simpa using h2
      go_enter Tryz.func172, Tryz.ntmps172
      go_wp2
      go_ret
      exact ⟨by rw [HC.out, show catchB pl t fr d = false from Bool.eq_false_iff.2 (fun h => by have := (catchB_iff.1 h).2; omega)]; rfl, push (push (Below.refl _ _) _) _⟩
  · have e1 : (fr.toList == pl.toList) = false := bytes_ne.2 h1
    have H1 : Hid (¬ fr = pl) := h1
    clear h1
    go_enter Tryz.func172, Tryz.ntmps172
    go_wp2
    go_ret
    exact ⟨by rw [HC.out, Bool.eq_false_iff.2 (fun h => H1.out (catchB_iff.1 h).1)]; rfl, push (push (Below.refl _ _) _) _⟩
theorem with_any (la : Option Addr) (n lc : Nat) (ls : List Int) (pl : ByteArray) (t x d a mo : Int) (fr tt : ByteArray) (lo co : Option Addr) (m1 m2 c1 c2 : Nat) (w : World) (hl : ls.length = n) (hn : n ≤ 1048576) (hx : IntsAt w la n (getI ls)) (hna : la = none → n = 0 ∧ lc = 0) :
    Calls Tryz.prog 173 #[.agg #[.slice la n lc, .string pl, .int .i64 t], .agg #[.int .i64 x, .string fr, .string tt, .int .i64 d, .int .i64 a, .slice lo m1 c1, .slice co m2 c2, .int .i64 mo]] w fun e w' => ∃ ao c, e = .returned (.agg #[.slice ao (n + 1) c, .string tt, .int .i64 a]) ∧ w'.ownsRow w.heap.size 3 1 (.slice ao (n + 1) c) (n + 1) (cellsI (ls ++ [x])) ∧ Below w.heap.size w w' := by
  have HL : Hid (ls.length = n) := hl
  clear hl
  go_enter Tryz.func173, Tryz.ntmps173
  go_upto_region 1 with fail
  have hr0 : (((w.alloc (.cells #[.slice la n lc, .string pl, .int .i64 t] 227)).alloc (.cells #[.int .i64 x, .string fr, .string tt, .int .i64 d, .int .i64 a, .slice lo m1 c1, .slice co m2 c2, .int .i64 mo] 54)).alloc (.cells #[.slice none 0 0, .string ⟨#[]⟩, .int .i64 0] 227)).heap[w.heap.size]? = some (.cells #[.slice la n lc, .string pl, .int .i64 t] 227 (0, 0)) := blk_alloc (blk_alloc (heap_alloc_new w _) _) _
  have hs0 : (((w.alloc (.cells #[.slice la n lc, .string pl, .int .i64 t] 227)).alloc (.cells #[.int .i64 x, .string fr, .string tt, .int .i64 d, .int .i64 a, .slice lo m1 c1, .slice co m2 c2, .int .i64 mo] 54)).alloc (.cells #[.slice none 0 0, .string ⟨#[]⟩, .int .i64 0] 227)).heap[w.heap.size + 1]? = some (.cells #[.int .i64 x, .string fr, .string tt, .int .i64 d, .int .i64 a, .slice lo m1 c1, .slice co m2 c2, .int .i64 mo] 54 (0, 0)) := blk_alloc (by simpa using heap_alloc_new (w.alloc _) _) _
  have hz0 : (((w.alloc (.cells #[.slice la n lc, .string pl, .int .i64 t] 227)).alloc (.cells #[.int .i64 x, .string fr, .string tt, .int .i64 d, .int .i64 a, .slice lo m1 c1, .slice co m2 c2, .int .i64 mo] 54)).alloc (.cells #[.slice none 0 0, .string ⟨#[]⟩, .int .i64 0] 227)).heap[w.heap.size + 1 + 1]? = some (.cells #[.slice none 0 0, .string ⟨#[]⟩, .int .i64 0] 227 (0, 0)) := by simpa using heap_alloc_new ((w.alloc _).alloc _) _
  have hb0 : Below w.heap.size w (((w.alloc (.cells #[.slice la n lc, .string pl, .int .i64 t] 227)).alloc (.cells #[.int .i64 x, .string fr, .string tt, .int .i64 d, .int .i64 a, .slice lo m1 c1, .slice co m2 c2, .int .i64 mo] 54)).alloc (.cells #[.slice none 0 0, .string ⟨#[]⟩, .int .i64 0] 227)) := push (push (push (Below.refl _ _) _) _) _
  have hsz0 : (((w.alloc (.cells #[.slice la n lc, .string pl, .int .i64 t] 227)).alloc (.cells #[.int .i64 x, .string fr, .string tt, .int .i64 d, .int .i64 a, .slice lo m1 c1, .slice co m2 c2, .int .i64 mo] 54)).alloc (.cells #[.slice none 0 0, .string ⟨#[]⟩, .int .i64 0] 227)).heap.size = w.heap.size + 1 + 1 + 1 := by simp
  generalize hW : ((w.alloc (.cells #[.slice la n lc, .string pl, .int .i64 t] 227)).alloc (.cells #[.int .i64 x, .string fr, .string tt, .int .i64 d, .int .i64 a, .slice lo m1 c1, .slice co m2 c2, .int .i64 mo] 54)).alloc (.cells #[.slice none 0 0, .string ⟨#[]⟩, .int .i64 0] 227) = W at hr0 hs0 hz0 hb0 hsz0 ⊢
  clear hW
  have HSZ : Hid (W.heap.size = w.heap.size + 1 + 1 + 1) := hsz0
  clear hsz0
  have hb1 : Below W.heap.size W (((W.alloc (.cells #[.int .i64 x] 3)).alloc (.cells #[.slice la n lc, .slice (some ⟨W.heap.size, 0, none⟩) 1 1] 31)).drew) := (push (push (Below.refl _ W) _) _).drew
  have hl1 : (((W.alloc (.cells #[.int .i64 x] 3)).alloc (.cells #[.slice la n lc, .slice (some ⟨W.heap.size, 0, none⟩) 1 1] 31)).drew).heap[W.heap.size + 1]? = some (.cells #[.slice la n lc, .slice (some ⟨W.heap.size, 0, none⟩) 1 1] 31 (0, 0)) := blk_drew (by simpa using heap_alloc_new (W.alloc _) _)
  have hl2 : (((W.alloc (.cells #[.int .i64 x] 3)).alloc (.cells #[.slice la n lc, .slice (some ⟨W.heap.size, 0, none⟩) 1 1] 31)).drew).heap[W.heap.size]? = some (.cells #[.int .i64 x] 3 (0, 0)) := blk_drew (blk_alloc (heap_alloc_new W _) _)
  have cc := concat_legs (W.heap.size + 1) W.heap.size la n lc ls x (((W.alloc (.cells #[.int .i64 x] 3)).alloc (.cells #[.slice la n lc, .slice (some ⟨W.heap.size, 0, none⟩) 1 1] 31)).drew) HL.out hn hl1 (hx.below (after hb0 hb1)) (blk_cell hl2 0 _ rfl) hna
  have CC : Hid _ := cc
  have keepS : Hid (∀ w', Kept W w' (fun b => b = w.heap.size + 1 + 1) → w'.cell? ⟨w.heap.size, 0, none⟩ = some (.slice la n lc) ∧ w'.cell? ⟨w.heap.size + 1, 0, none⟩ = some (.int .i64 x) ∧ w'.cell? ⟨w.heap.size + 1, 2, none⟩ = some (.string tt) ∧ w'.cell? ⟨w.heap.size + 1, 4, none⟩ = some (.int .i64 a)) :=
    fun w' hk => ⟨blk_cell (hk.blk hr0 (by omega)) 0 _ rfl, blk_cell (hk.blk hs0 (by omega)) 0 _ rfl, blk_cell (hk.blk hs0 (by omega)) 2 _ rfl, blk_cell (hk.blk hs0 (by omega)) 4 _ rfl⟩
  have KD : Hid (Kept W W.drew (fun b => b = w.heap.size + 1 + 1)) := Kept.of_below (Below.refl _ _).drew
  have KP : Hid (∀ o, Kept W (W.alloc o) (fun b => b = w.heap.size + 1 + 1)) := fun o => Kept.of_below (push (Below.refl _ _) _)
  have KPD : Hid (∀ o, Kept W (W.alloc o).drew (fun b => b = w.heap.size + 1 + 1)) := fun o => Kept.of_below (push (Below.refl _ _) _).drew
  have KPP : Hid (∀ o p, Kept W ((W.alloc o).alloc p) (fun b => b = w.heap.size + 1 + 1)) := fun o p => Kept.of_below (push (push (Below.refl _ _) _) _)
  have KPPD : Hid (∀ o p, Kept W ((W.alloc o).alloc p).drew (fun b => b = w.heap.size + 1 + 1)) := fun o p => Kept.of_below (push (push (Below.refl _ _) _) _).drew
  have KS : Hid (∀ w', Kept W w' (fun b => b = w.heap.size + 1 + 1) → ∀ u1 u2 u3, Kept W (((w'.setCell ⟨w.heap.size + 1 + 1, 0, none⟩ u1).setCell ⟨w.heap.size + 1 + 1, 1, none⟩ u2).setCell ⟨w.heap.size + 1 + 1, 2, none⟩ u3) (fun b => b = w.heap.size + 1 + 1)) := fun w' hk u1 u2 u3 => ((hk.set (a := ⟨w.heap.size + 1 + 1, 0, none⟩) rfl _).set (a := ⟨w.heap.size + 1 + 1, 1, none⟩) rfl _).set (a := ⟨w.heap.size + 1 + 1, 2, none⟩) rfl _
  have q0 := blk_cell hr0 0 _ rfl
  have q1 := blk_cell hs0 0 _ rfl
  have q2 := blk_cell hs0 2 _ rfl
  have q3 := blk_cell hs0 4 _ rfl
  have HB1 : Hid (Below W.heap.size W (((W.alloc (.cells #[.int .i64 x] 3)).alloc (.cells #[.slice la n lc, .slice (some ⟨W.heap.size, 0, none⟩) 1 1] 31)).drew)) := hb1
  have HZ : Hid (W.heap[w.heap.size + 1 + 1]? = some (.cells #[.slice none 0 0, .string ⟨#[]⟩, .int .i64 0] 227 (0, 0))) := hz0
  have HB0 : Hid (Below w.heap.size w W) := hb0
  clear cc hl1 hl2 hb1 hr0 hs0 hz0 hb0 hx
  go_region_held3 (fun w' => w'.cell? ⟨w.heap.size, 0, none⟩ = some (.slice la n lc) ∧ w'.cell? ⟨w.heap.size + 1, 0, none⟩ = some (.int .i64 x) ∧ w'.cell? ⟨w.heap.size + 1, 2, none⟩ = some (.string tt) ∧ w'.cell? ⟨w.heap.size + 1, 4, none⟩ = some (.int .i64 a))
    (first | with_reducible exact ⟨q0, q1, q2, q3⟩ | with_reducible exact keepS.out _ KD.out | with_reducible exact keepS.out _ (KP.out _) | with_reducible exact keepS.out _ (KPD.out _) | with_reducible exact keepS.out _ (KPP.out _ _) | with_reducible exact keepS.out _ (KPPD.out _ _) | with_reducible exact keepS.out _ (Kept.of_below (after HB1.out hb3)) | with_reducible exact keepS.out _ (KS.out _ (Kept.of_below (after HB1.out hb3)) _ _ _))
    (first | (go_at_call 179; refine Calls.mono CC.out ?_; rintro e w3 ⟨⟨aC, cC, rfl, ho⟩, hb3⟩; have z3 := blk_below HZ.out (after HB1.out hb3); have o0 := blk_cell z3 0 _ rfl; have o1 := blk_cell z3 1 _ rfl; have o2 := blk_cell z3 2 _ rfl; have f0 := blk_free z3 0; have f1 := blk_free z3 1; have f2 := blk_free z3 2))
  go_wp2
  clear q0 q1 q2 q3 o0 o1 o2 f0 f1 f2
  have hBs : w.heap.size + 1 + 1 < (((W.alloc (.cells #[.int .i64 x] 3)).alloc (.cells #[.slice la n lc, .slice (some ⟨W.heap.size, 0, none⟩) 1 1] 31)).drew).heap.size := by
    have h1 := HB1.out.size
    have h2 := HSZ.out
    omega
  have rF := blk_set (blk_set (blk_set z3 0 (.slice aC (n + 1) cC)) 1 (.string tt)) 2 (.int .i64 a)
  have y0 := blk_cell rF 0 _ rfl
  have y1 := blk_cell rF 1 _ rfl
  have y2 := blk_cell rF 2 _ rfl
  refine bodyPost_ret (v := .agg #[.slice aC (n + 1) cC, .string tt, .int .i64 a]) (by simp [results, Tryz.results173, go_sem, y0, y1, y2]) rfl ⟨aC, cC, rfl, ?_, ?_⟩
  · exact own_base (own_set (own_set (own_set ho (by show w.heap.size + 1 + 1 < _; exact hBs) _) (by show w.heap.size + 1 + 1 < _; exact hBs) _) (by show w.heap.size + 1 + 1 < _; exact hBs) _) (by omega)
  · have hb := after HB0.out (after HB1.out hb3)
    exact ((hb.setCell (by show w.heap.size ≤ w.heap.size + 1 + 1; omega) _).setCell (by show w.heap.size ≤ w.heap.size + 1 + 1; omega) _).setCell (by show w.heap.size ≤ w.heap.size + 1 + 1; omega) _
theorem findSailing_any (ao : Option Addr) (N c : Nat) (S : Nat → Sail) (x : Int) (w : World) (hN : N ≤ 1048576) (hx : SailsAt w ao N S) :
    Calls Tryz.prog 171 #[.slice ao N c, .int .i64 x] w fun e w' => ((findIx S x N < N ∧ e = .returned (.tuple #[.int .i64 (findIx S x N), .bool true])) ∨ (findIx S x N = N ∧ e = .returned (.tuple #[.int .i64 0, .bool false]))) ∧ Below w.heap.size w w' := by
  go_enter Tryz.func171, Tryz.ntmps171
  go_wp2
  go_loopw [6, 7, 10] (fun _ _ i wr => ∃ k : Nat, k ≤ N ∧ i = .int .i64 k ∧ (∀ j, j < k → (S j).id ≠ x) ∧ Below w.heap.size w wr) (fun _ _ i _ => N - (intOf i).toNat)
  case atStart => exact ⟨0, Nat.zero_le _, rfl, fun j hj => by omega, Below.refl _ _⟩
  case round =>
    obtain ⟨k, hk, rfl, hall, hbel⟩ := hrel
    have HA : Hid (∀ j, j < k → (S j).id ≠ x) := hall
    clear hall
    by_cases hlt : k < N
    · obtain ⟨b, off, la, lc, ca, cc, rfl, h0, h1, h2, h3, h4, h5, h6, h7, _, _, _, _⟩ := hx k hlt
      have hb := World.block_lt_of_cell? w _ h1
      have c0 := (hbel.cell (p := ⟨b, off + k * 8, none⟩) hb).trans h0
      have c1 := (hbel.cell (p := ⟨b, off + k * 8 + 1, none⟩) hb).trans h1
      have c2 := (hbel.cell (p := ⟨b, off + k * 8 + 2, none⟩) hb).trans h2
      have c3 := (hbel.cell (p := ⟨b, off + k * 8 + 3, none⟩) hb).trans h3
      have c4 := (hbel.cell (p := ⟨b, off + k * 8 + 4, none⟩) hb).trans h4
      have c5 := (hbel.cell (p := ⟨b, off + k * 8 + 5, none⟩) hb).trans h5
      have c6 := (hbel.cell (p := ⟨b, off + k * 8 + 6, none⟩) hb).trans h6
      have c7 := (hbel.cell (p := ⟨b, off + k * 8 + 7, none⟩) hb).trans h7
      clear h0 h1 h2 h3 h4 h5 h6 h7
      by_cases he : (S k).id = x
      · have e1 : ((S k).id == x) = true := by simpa using he
        have HF : Hid (findIx S x N = k) := findIx_is hlt he HA.out
        clear he
        go_wp2
        exact bodyPost_ret (v := .tuple #[.int .i64 k, .bool true]) (by simp [results, Tryz.results171, go_sem]) rfl ⟨.inl ⟨by rw [HF.out]; exact hlt, by rw [HF.out]⟩, push hbel _⟩
      · have e1 : ((S k).id == x) = false := by simpa using he
        have HE : Hid ((S k).id ≠ x) := he
        clear he
        go_wp2
        go_roundw
        case rel => exact ⟨k + 1, by omega, by go_num, fun j hj => by
          by_cases e : j = k
          · subst e; exact HE.out
          · exact HA.out j (by omega), push hbel _⟩
        case measure => simp [intOf]; omega
    · obtain rfl : k = N := by omega
      have HF : Hid (findIx S x k = k) := findIx_none HA.out
      go_wp2
      exact bodyPost_ret (v := .tuple #[.int .i64 0, .bool false]) (by simp [results, Tryz.results171, go_sem]) rfl ⟨.inr ⟨HF.out, rfl⟩, hbel⟩
end Go.Proofs.YtlelckbeoclhbaaGreat

namespace Go.Proofs.YtlelckbeoclhbaaGreat
open Go.RowKit
def WayIs (N : Nat) (S : Nat → Sail) (G : Nat → Int) (w : World) (B k : Nat) : Prop :=
  ∃ la lc ls pl t, w.heap[B]? = some (.cells #[.slice la k lc, .string pl, .int .i64 t] 227 (0, 0)) ∧ ls.length = k ∧ IntsAt w la k (getI ls) ∧ (la = none → k = 0 ∧ lc = 0) ∧
    (0 < k → pl = (S (findIx S (G (k - 1)) N)).dst ∧ t = (S (findIx S (G (k - 1)) N)).arr)
theorem implFit_any (ao bo : Option Addr) (N n c c' : Nat) (S : Nat → Sail) (G : Nat → Int) (w : World) (hN : N ≤ 1048576) (hn : n ≤ 1048576) (hs : ShortAll N S 1048576) (hx : SailsAt w ao N S) (hy : IntsAt w bo n G) :
    Calls Tryz.prog 150 #[.slice ao N c, .slice bo n c'] w fun e w' => SaysIf (GoodTab N S ∧ LegsOk N S n G) e ∧ Below w.heap.size w w' := by
  have HS : Hid (ShortAll N S 1048576) := hs
  clear hs
  go_enter Tryz.func150, Tryz.ntmps150
  go_wp2_with fail
  refine (implTab_any ao N c S _ hN HS.out hx).mono ?_
  rintro e w1 ⟨⟨b1, rfl, hi1⟩, hb1⟩
  cases b1 with
  | false =>
    have HN : Hid (¬ GoodTab N S) := fun h => by have := hi1.2 h; cases this
    clear hi1
    go_wp2
    go_ret
    exact ⟨says_no (fun h => HN.out h.1), hb1⟩
  | true =>
    have HT : Hid (GoodTab N S) := hi1.1 rfl
    clear hi1
    by_cases g3 : In (n : Int) 1 3
    case neg =>
      have d3 : decide (In (n : Int) 1 3) = false := decide_eq_false g3
      have HN : Hid (¬ LegsOk N S n G) := fun h => g3 ⟨by have := h.1; omega, by have := h.2.1; omega⟩
      clear g3
      go_wp2_with (first | (go_at_call 143; refine (within_is _ _ _ _).mono ?_; rintro e w' ⟨rfl, hw'⟩; have hw' := hw'.symm; subst hw'))
      go_ret
      exact ⟨says_no (fun h => HN.out h.2), hb1⟩
    have d3 : decide (In (n : Int) 1 3) = true := decide_eq_true g3
    have H3 : Hid (1 ≤ n ∧ n ≤ 3) := ⟨by have := g3.1; omega, by have := g3.2; omega⟩
    have hn3 : n ≤ 3 := H3.out.2
    clear g3
    go_wp2_with (first | (go_at_call 143; refine (within_is _ _ _ _).mono ?_; rintro e w' ⟨rfl, hw'⟩; have hw' := hw'.symm; subst hw'))
    have hb0 : Below w.heap.size w (w1.alloc (.cells #[.slice none 0 0, .string ⟨#[]⟩, .int .i64 0] 227)) := push hb1 _
    have hbx0 := heap_alloc_new w1 (.cells #[.slice none 0 0, .string ⟨#[]⟩, .int .i64 0] 227)
    have hB : w.heap.size ≤ w1.heap.size := hb1.size
    go_loopw [6, 7, 8, 9, 21] (fun _ _ _ _ i wr => ∃ k : Nat, k ≤ n ∧ i = .int .i64 k ∧ (∀ j, j < k → LegOk N S G j) ∧ WayIs N S G wr w1.heap.size k ∧ Below w.heap.size w wr) (fun _ _ _ _ i _ => n - (intOf i).toNat)
    case atStart => exact ⟨0, Nat.zero_le _, rfl, fun j hj => by omega, ⟨none, 0, [], ⟨#[]⟩, 0, hbx0, rfl, fun k hk => by omega, fun _ => ⟨rfl, rfl⟩, fun h => by omega⟩, hb0⟩
    case round =>
      clear hb0 hbx0 d3 hb1
      obtain ⟨k, hk, rfl, hall, hway, hbel⟩ := hrel
      have HA : Hid (∀ j, j < k → LegOk N S G j) := hall
      have HW : Hid (WayIs N S G wr w1.heap.size k) := hway
      clear hall hway
      by_cases hlt : k < n
      · obtain ⟨qb, qoff, rfl, hq⟩ := hy k hlt
        have hqb := World.block_lt_of_cell? w _ hq
        have p0 := (hbel.cell (p := ⟨qb, qoff + k, none⟩) hqb).trans hq
        clear hq
        go_wp2_with fail
        refine (findSailing_any ao N c S (G k) _ hN (hx.below hbel)).mono ?_
        rintro e w2 ⟨hr, hb2⟩
        obtain ⟨la, lc, ls, pl, t, hbox, hls, hints, hna, hpos⟩ := HW.out
        have hbox := blk_below hbox hb2
        have hints := hints.below hb2
        have hbel2 := after hbel hb2
        have HLS : Hid (ls.length = k) := hls
        have HPO : Hid (0 < k → pl = (S (findIx S (G (k - 1)) N)).dst ∧ t = (S (findIx S (G (k - 1)) N)).arr) := hpos
        clear hls hpos hb2 hbel p0 HW
        rcases hr with ⟨hf, rfl⟩ | ⟨hf, rfl⟩
        · obtain ⟨x, hxx⟩ : ∃ x, x = findIx S (G k) N := ⟨_, rfl⟩
          rw [← hxx] at hf ⊢
          have HX : Hid (x = findIx S (G k) N) := hxx
          clear hxx
          have x1 : (x : Int) < (N : Int) := by omega
          have x0 : (0 : Int) ≤ (x : Int) := by omega
          obtain ⟨sb, soff, sla, slc, sca, scc, rfl, h0, h1, h2, h3, h4, h5, h6, h7, _, _, _, _⟩ := hx x hf
          have hsb := World.block_lt_of_cell? w _ h1
          have hsb2 : sb < w2.heap.size := Nat.lt_of_lt_of_le hsb hbel2.size
          have s0 := (hbel2.cell (p := ⟨sb, soff + x * 8, none⟩) hsb).trans h0
          have s1 := (hbel2.cell (p := ⟨sb, soff + x * 8 + 1, none⟩) hsb).trans h1
          have s2 := (hbel2.cell (p := ⟨sb, soff + x * 8 + 2, none⟩) hsb).trans h2
          have s3 := (hbel2.cell (p := ⟨sb, soff + x * 8 + 3, none⟩) hsb).trans h3
          have s4 := (hbel2.cell (p := ⟨sb, soff + x * 8 + 4, none⟩) hsb).trans h4
          have s5 := (hbel2.cell (p := ⟨sb, soff + x * 8 + 5, none⟩) hsb).trans h5
          have s6 := (hbel2.cell (p := ⟨sb, soff + x * 8 + 6, none⟩) hsb).trans h6
          have s7 := (hbel2.cell (p := ⟨sb, soff + x * 8 + 7, none⟩) hsb).trans h7
          clear h0 h1 h2 h3 h4 h5 h6 h7
          have hBw : w1.heap.size < w2.heap.size := blk_lt hbox
          have g0 : ∀ g : Grown w2, g.val.cell? ⟨w1.heap.size, 0, none⟩ = some (.slice la k lc) := fun g => (g.bel.cell hBw).trans (blk_cell hbox 0 _ rfl)
          have g1 : ∀ g : Grown w2, g.val.cell? ⟨w1.heap.size, 1, none⟩ = some (.string pl) := fun g => (g.bel.cell hBw).trans (blk_cell hbox 1 _ rfl)
          have g2 : ∀ g : Grown w2, g.val.cell? ⟨w1.heap.size, 2, none⟩ = some (.int .i64 t) := fun g => (g.bel.cell hBw).trans (blk_cell hbox 2 _ rfl)
          have r0 : ∀ g : Grown w2, g.val.cell? ⟨sb, soff + x * 8, none⟩ = _ := fun g => (g.bel.cell hsb2).trans s0
          have r1 : ∀ g : Grown w2, g.val.cell? ⟨sb, soff + x * 8 + 1, none⟩ = _ := fun g => (g.bel.cell hsb2).trans s1
          have r2 : ∀ g : Grown w2, g.val.cell? ⟨sb, soff + x * 8 + 2, none⟩ = _ := fun g => (g.bel.cell hsb2).trans s2
          have r3 : ∀ g : Grown w2, g.val.cell? ⟨sb, soff + x * 8 + 3, none⟩ = _ := fun g => (g.bel.cell hsb2).trans s3
          have r4 : ∀ g : Grown w2, g.val.cell? ⟨sb, soff + x * 8 + 4, none⟩ = _ := fun g => (g.bel.cell hsb2).trans s4
          have r5 : ∀ g : Grown w2, g.val.cell? ⟨sb, soff + x * 8 + 5, none⟩ = _ := fun g => (g.bel.cell hsb2).trans s5
          have r6 : ∀ g : Grown w2, g.val.cell? ⟨sb, soff + x * 8 + 6, none⟩ = _ := fun g => (g.bel.cell hsb2).trans s6
          have r7 : ∀ g : Grown w2, g.val.cell? ⟨sb, soff + x * 8 + 7, none⟩ = _ := fun g => (g.bel.cell hsb2).trans s7
          go_upto_region 8 with fail
          go_cut [8, 21, 46] (fun j i v wx => j = .int .i64 x ∧ i = .int .i64 k ∧ Tells (LegOk N S G k) v ∧ Below w2.heap.size w2 wx)
          case first =>
            by_cases k0 : k = 0
            · subst k0
              refine wp_region_grow (by kernel_rfl) (by kernel_rfl) ?_
              repeat (first | go_big_quiet_skip | (go_big_quiet_want; go_big_quiet_op; go_big_quiet_on))
              refine wpQuiet_nil ?_
              rintro _ ⟨g, rfl⟩
              go_wp2
              go_meet
              exact ⟨rfl, rfl, tells_good ⟨by rw [← HX.out]; exact hf, fun h => by omega⟩, g.bel⟩
            · have d0 : decide (0 < k) = true := by simp; omega
              by_cases hcb : catchB pl t (S x).fr (S x).dep = true
              · refine wp_region_grow (by kernel_rfl) (by kernel_rfl) ?_
                repeat (first | go_big_quiet_skip | (go_big_quiet_want; go_big_quiet_op; first | go_big_quiet_on | (apply Exists.intro; refine ⟨fun g => ?_, ?_⟩; (focus (go_at_call 172; refine grown_call (v := .bool true) ((catches_is _ _ _ _ _ _ _ _ _ _ _ _ _ _ _ _ _ _).mono ?_); rintro e w4 ⟨rfl, hbb⟩; exact ⟨by rw [hcb], hbb⟩)); go_big_quiet_on)))
                refine wpQuiet_nil ?_
                rintro _ ⟨g, rfl⟩
                go_wp2
                go_meet
                exact ⟨rfl, rfl, tells_good ⟨by rw [← HX.out]; exact hf, fun h => by
                  have h1 := catchB_iff.1 hcb
                  have h2 := HPO.out h
                  rw [← HX.out]
                  exact ⟨by rw [← h2.1]; exact h1.1.symm, by rw [← h2.2]; exact h1.2⟩⟩, g.bel⟩
              · have hcb := Bool.eq_false_iff.2 hcb
                refine wp_region_grow (by kernel_rfl) (by kernel_rfl) ?_
                repeat (first | go_big_quiet_skip | (go_big_quiet_want; go_big_quiet_op; first | go_big_quiet_on | (apply Exists.intro; refine ⟨fun g => ?_, ?_⟩; (focus (go_at_call 172; refine grown_call (v := .bool false) ((catches_is _ _ _ _ _ _ _ _ _ _ _ _ _ _ _ _ _ _).mono ?_); rintro e w4 ⟨rfl, hbb⟩; exact ⟨by rw [hcb], hbb⟩)); go_big_quiet_on)))
                refine wpQuiet_nil ?_
                rintro _ ⟨g, rfl⟩
                go_wp2
                go_meet
                exact ⟨rfl, rfl, tells_bad (fun h => by
                  have h1 := h.2 (by omega)
                  have h2 := HPO.out (by omega)
                  rw [← HX.out] at h1
                  have h3 := catchB_iff.2 (show (S x).fr = pl ∧ t ≤ (S x).dep from ⟨by rw [h2.1]; exact h1.1.symm, by rw [h2.2]; exact h1.2⟩)
                  rw [hcb] at h3; cases h3), g.bel⟩
          case rest =>
            clear g0 g1 g2 r0 r1 r2 r3 r4 r5 r6 r7
            obtain ⟨rfl, rfl, ⟨tb, rfl, ht⟩, hb3⟩ := hcut
            have HTB : Hid (tb = false ↔ LegOk N S G k) := ht
            clear ht
            obtain ⟨w3, ew3⟩ : ∃ y, y = wc := ⟨_, rfl⟩
            subst ew3
            have hbel3 := after hbel2 hb3
            cases tb with
            | true =>
              clear s0 s1 s2 s3 s4 s5 s6 s7
              go_wp2
              go_ret
              exact ⟨says_no (fun h => by have := HTB.out.2 (h.2.2.2 k hlt); cases this), hbel3⟩
            | false =>
              have HK : Hid (LegOk N S G k) := HTB.out.1 rfl
              clear HTB
              have hbox3 := blk_below hbox hb3
              have s0 := (hb3.cell (p := ⟨sb, soff + x * 8, none⟩) hsb2).trans s0
              have s1 := (hb3.cell (p := ⟨sb, soff + x * 8 + 1, none⟩) hsb2).trans s1
              have s2 := (hb3.cell (p := ⟨sb, soff + x * 8 + 2, none⟩) hsb2).trans s2
              have s3 := (hb3.cell (p := ⟨sb, soff + x * 8 + 3, none⟩) hsb2).trans s3
              have s4 := (hb3.cell (p := ⟨sb, soff + x * 8 + 4, none⟩) hsb2).trans s4
              have s5 := (hb3.cell (p := ⟨sb, soff + x * 8 + 5, none⟩) hsb2).trans s5
              have s6 := (hb3.cell (p := ⟨sb, soff + x * 8 + 6, none⟩) hsb2).trans s6
              have s7 := (hb3.cell (p := ⟨sb, soff + x * 8 + 7, none⟩) hsb2).trans s7
              have b0 := blk_cell hbox3 0 _ rfl
              have b1 := blk_cell hbox3 1 _ rfl
              have b2 := blk_cell hbox3 2 _ rfl
              have hints3 := (hints.below hb3).below (Below.refl _ w3).drew
              have HB3 : Hid (w3.drew.heap[w1.heap.size]? = some (.cells #[.slice la k lc, .string pl, .int .i64 t] 227 (0, 0))) := hbox3
              clear hbox hbox3 hints
              go_upto_region 10 with fail
              go_region_with (first | (go_at_call 173; refine Calls.mono (with_any la k lc ls pl t _ _ _ _ _ _ _ _ _ _ _ _ _ HLS.out ?_ hints3 hna) ?_; (focus omega); rintro e w5 ⟨ao5, c5, rfl, ho5, hb5⟩; have z5 := blk_below HB3.out hb5; have o0 := blk_cell z5 0 _ rfl; have o1 := blk_cell z5 1 _ rfl; have o2 := blk_cell z5 2 _ rfl; have f0 := blk_free z5 0; have f1 := blk_free z5 1; have f2 := blk_free z5 2))
              all_goals
                have HO5 : Hid _ := ho5
                clear ho5
                go_wp2
                go_roundw
                case rel =>
                  refine ⟨k + 1, by omega, by go_num, fun j hj => ?_, ?_, ?_⟩
                  · by_cases e : j = k
                    · subst e; exact HK.out
                    · exact HA.out j (by omega)
                  · have own5 := own_set (own_set (own_set HO5.out (a := ⟨w1.heap.size, 0, none⟩) (blk_lt HB3.out) (.slice ao5 (k + 1) c5)) (a := ⟨w1.heap.size, 1, none⟩) (blk_lt HB3.out) (.string (S x).dst)) (a := ⟨w1.heap.size, 2, none⟩) (blk_lt HB3.out) (.int .i64 (S x).arr)
                    obtain ⟨_, _, e5, _, _, en5⟩ := own_form own5
                    simp only [Value.slice.injEq, true_and] at e5
                    obtain ⟨rfl, rfl⟩ := e5
                    exact ⟨ao5, c5, ls ++ [(S x).id], (S x).dst, (S x).arr, blk_set (blk_set (blk_set z5 0 _) 1 _) 2 _, by rw [List.length_append, HLS.out]; rfl, own_legs (by rw [List.length_append, HLS.out]; rfl) own5, fun h => absurd (en5 h).1 (by omega), fun _ => by
                      rw [Nat.add_sub_cancel, ← HX.out]; exact ⟨rfl, rfl⟩⟩
                  · exact (((after hbel3.drew hb5).setCell hB _).setCell hB _).setCell hB _
                case measure => simp [intOf]; omega
        · have HF : Hid (findIx S (G k) N = N) := hf
          clear hf
          go_upto_region 8 with fail
          refine wp_region_grow (by kernel_rfl) (by kernel_rfl) ?_
          repeat (first | go_big_quiet_skip | (go_big_quiet_want; go_big_quiet_op; go_big_quiet_on))
          refine wpQuiet_nil ?_
          rintro _ ⟨g, rfl⟩
          go_wp2
          go_ret
          exact ⟨says_no (fun h => by have := (h.2.2.2 k hlt).1; have := HF.out; omega), after hbel2 g.bel⟩
      · obtain rfl : k = n := by omega
        go_wp2
        go_ret
        exact ⟨says_yes ⟨HT.out, H3.out.1, H3.out.2, HA.out⟩, hbel⟩
end Go.Proofs.YtlelckbeoclhbaaGreat

namespace Go.Proofs.YtlelckbeoclhbaaGreat
open Go.RowKit
theorem asksCar_any (pe len hei cl : Int) (all : Bool) (be : Int) (w : World) :
    Calls Tryz.prog 112 #[.agg #[.int .i64 pe, .int .i64 len, .int .i64 hei, .int .i64 cl, .bool all, .int .i64 be]] w fun e w' => e = .returned (.bool (decide (¬ (len = 0 ∧ hei = 0)))) ∧ Below w.heap.size w w' := by
  obtain ⟨c, hc⟩ : ∃ c, c = decide (¬ (len = 0 ∧ hei = 0)) := ⟨_, rfl⟩
  rw [← hc]
  have HC : Hid (c = decide (¬ (len = 0 ∧ hei = 0))) := hc
  clear hc
  by_cases h1 : len = 0
  · subst h1
    by_cases h2 : hei = 0
    · subst h2
      go_enter Tryz.func112, Tryz.ntmps112
      go_wp2
      go_ret
      exact ⟨by rw [HC.out]; rfl, push (Below.refl _ _) _⟩
    · have e2 : (hei != 0) = true := by simpa using h2
      have HR : Hid (c = true) := by rw [HC.out]; exact decide_eq_true (fun h => h2 h.2)
      clear h2
      go_enter Tryz.func112, Tryz.ntmps112
      go_wp2
      go_ret
      exact ⟨by rw [HR.out]; rfl, push (Below.refl _ _) _⟩
  · have e1 : (len != 0) = true := by simpa using h1
    have HR : Hid (c = true) := by rw [HC.out]; exact decide_eq_true (fun h => h1 h.1)
    clear h1
    go_enter Tryz.func112, Tryz.ntmps112
    go_wp2
    go_ret
    exact ⟨by rw [HR.out]; rfl, push (Below.refl _ _) _⟩
theorem asksCabin_any (pe len hei cl : Int) (all : Bool) (be : Int) (w : World) :
    Calls Tryz.prog 113 #[.agg #[.int .i64 pe, .int .i64 len, .int .i64 hei, .int .i64 cl, .bool all, .int .i64 be]] w fun e w' => e = .returned (.bool (decide (¬ (cl = 0 ∧ all = false ∧ be = 0)))) ∧ Below w.heap.size w w' := by
  obtain ⟨c, hc⟩ : ∃ c, c = decide (¬ (cl = 0 ∧ all = false ∧ be = 0)) := ⟨_, rfl⟩
  rw [← hc]
  have HC : Hid (c = decide (¬ (cl = 0 ∧ all = false ∧ be = 0))) := hc
  clear hc
  by_cases h1 : cl = 0
  · subst h1
    cases all with
    | true =>
      have HR : Hid (c = true) := by rw [HC.out]; exact decide_eq_true (fun h => by cases h.2.1)
      go_enter Tryz.func113, Tryz.ntmps113
      go_wp2
      go_ret
      exact ⟨by rw [HR.out]; rfl, push (Below.refl _ _) _⟩
    | false =>
      by_cases h2 : be = 0
      · subst h2
        go_enter Tryz.func113, Tryz.ntmps113
        go_wp2
        go_ret
        exact ⟨by rw [HC.out]; rfl, push (Below.refl _ _) _⟩
      · have e2 : (be != 0) = true := by simpa using h2
        have HR : Hid (c = true) := by rw [HC.out]; exact decide_eq_true (fun h => h2 h.2.2)
        clear h2
        go_enter Tryz.func113, Tryz.ntmps113
        go_wp2
        go_ret
        exact ⟨by rw [HR.out]; rfl, push (Below.refl _ _) _⟩
  · have e1 : (cl != 0) = true := by simpa using h1
    have HR : Hid (c = true) := by rw [HC.out]; exact decide_eq_true (fun h => h1 h.1)
    clear h1
    go_enter Tryz.func113, Tryz.ntmps113
    go_wp2
    go_ret
    exact ⟨by rw [HR.out]; rfl, push (Below.refl _ _) _⟩
end Go.Proofs.YtlelckbeoclhbaaGreat
