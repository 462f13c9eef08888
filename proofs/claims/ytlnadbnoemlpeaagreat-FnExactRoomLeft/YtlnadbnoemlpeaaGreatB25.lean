/-
  OWN TEXT: CloneI, RoomsI, KitCp.
-/
import Derived.Test.YtlnadbnoemlpeaaGreatRows
import Derived.Deep.LoopGhost
import Derived.Lib.SliceRun
import Derived.Laws.CopyRow
import Derived.Test.YtlnadbnoemlpeaaGreatB16
import Derived.Test.YtlnadbnoemlpeaaGreatB24
import Derived.Test.YtlnadbnoemlpeaaGreatB01
namespace Go.Proofs.YtlnadbnoemlpeaaGreat
open Go.RowKit

theorem ints_cellsF {w : World} {ao : Option Addr} {n : Nat} {F : Nat → Int} (h : IntsAt w ao n F) : ∀ ad, ao = some ad → ∀ j u, (intList F n)[j]? = some u → w.cell? (ad.add j) = some u := by
  intro ad e j u hu
  obtain ⟨hj, rfl⟩ := intList_get _ _ _ _ hu
  obtain ⟨b, off, e2, hc⟩ := h j hj
  rw [e] at e2
  cases e2
  rw [Addr.add_lit]
  exact hc

set_option maxHeartbeats 800000 in
theorem cloneInts (ad : Addr) (n c : Nat) (F : Nat → Int) (w : World) (hn : n ≤ 1048576) (hx : IntsAt w (some ad) n F) :
    Calls Tryz.prog 102 #[.slice (some ad) n c] w fun e w' => (∃ v, e = .returned v ∧ w'.ownsRow w.heap.size 3 1 v n (intList F n)) ∧ Below w.heap.size w w' := by
  obtain ⟨j0, ji, jz0, jz1, jz2⟩ := info_parts Tryz.infoInt
  have hb0 : Below w.heap.size w (w.alloc (.cells #[] 3)) := push (Below.refl _ _) _
  have ho : (w.alloc (.cells #[] 3)).ownsRow w.heap.size 3 1 (.slice (some ⟨w.heap.size, 0, none⟩) 0 0) 0 [] := ⟨rfl, .inr ⟨w.heap.size, 0, #[], rfl, Nat.le_refl _, heap_alloc_new w _, Nat.le_refl _, Nat.zero_le _, rfl, rfl⟩⟩
  have HC : Hid (∀ ad', (some ad : Option Addr) = some ad' → ∀ j u, (intList F n)[j]? = some u → (w.alloc (.cells #[] 3)).cell? (ad'.add j) = some u) := ints_cellsF (hx.below hb0)
  have qT : ∀ (w : World) (a : Option Addr) (n c n' c' : Nat), (binOp .eql 44 (.slice a n c) (.slice none n' c')).run Tryz.prog w = .ok (.bool a.isNone) w := fun w a n c n' c' => Lib.run_eql_slice_nil w _ _ a n c n' c' Tryz.underlying44
  go_enter Tryz.func102, Tryz.ntmps102
  go_wp2_with (first | (at_builtin; refine wpList_append_any _ (by rfl) (.tmp 5) (.tmp 6) 44 (by rfl) w.heap.size 3 j0 (.int .i64 0) 1 8 Tryz.underlying44 ji jz0 jz1 jz2 rfl (by decide) _ 0 [] (by rfl) ho (some ad) n c (intList F n) (by rfl) (fun h => (by cases h)) (by rw [intList_length, Nat.mul_one]) HC.out (intList_one _ _) (by unfold maxLen; omega) (by omega) (by simp) ?_; intro v' w3 ho3 hg3))
  go_ret
  rw [Nat.zero_add, List.nil_append] at ho3
  exact ⟨⟨_, rfl, ho3⟩, hb0.grown hg3 (by simp) (fun j hj => (ho.lt j hj).1)⟩

end Go.Proofs.YtlnadbnoemlpeaaGreat

namespace Go.Proofs.YtlnadbnoemlpeaaGreat
open Go.RowKit

theorem six_ints {w : World} {f t m : Nat} {F G : Nat → Int} (h : w.heap[f]? = some (.cells #[.int .i64 (F 0), .int .i64 (F 1), .int .i64 (F 2), .int .i64 (F 3), .int .i64 (F 4), .int .i64 (F 5)] t (0, 0))) (hm : m ≤ 6) (hF : ∀ k, k < m → F k = G k) : IntsAt w (some ⟨f, 0, none⟩) m G := by
  intro k hk
  refine ⟨f, 0, rfl, ?_⟩
  rw [Nat.zero_add, ← hF k hk]
  have : k = 0 ∨ k = 1 ∨ k = 2 ∨ k = 3 ∨ k = 4 ∨ k = 5 := by omega
  rcases this with rfl | rfl | rfl | rfl | rfl | rfl
  · exact blk_cell h 0 _ rfl
  · exact blk_cell h 1 _ rfl
  · exact blk_cell h 2 _ rfl
  · exact blk_cell h 3 _ rfl
  · exact blk_cell h 4 _ rfl
  · exact blk_cell h 5 _ rfl

set_option maxHeartbeats 800000 in
set_option maxRecDepth 100000 in
theorem implRooms_any (ao bo : Option Addr) (m mc n c : Nat) (p : Pairs) (S : Nat → Room) (w : World) (hl : p.n = m) (hm : m ≤ 1048576) (hn : n ≤ 1048576) (hc : n ≤ c) (hx : PairsAt w ao p) (hz : RoomsAt w bo n S) :
    Calls Tryz.prog 78 #[.slice ao m mc, .slice bo n c] w fun e w' => SaysIf (RoomsS p n S) e ∧ Below w.heap.size w w' := by
  have HX : Hid (PairsAt w ao p) := hx
  have HZ : Hid (RoomsAt w bo n S) := hz
  have HL : Hid (p.n = m) := hl
  clear hx hz hl
  go_enter Tryz.func78, Tryz.ntmps78
  go_wp2_with fail
  refine (freeInCabins_any ao bo m mc n c p S _ HL.out hm hn hc HX.out HZ.out).mono ?_
  rintro e w1 ⟨hans, hb1⟩
  unfold FreeRAns six at hans
  rcases hans with ⟨hd, rfl⟩ | ⟨hd, rfl⟩
  · have HD : Hid (RoomsS p n S) := rooms_iff.1 hd
    clear hd
    go_wp2
    go_ret
    exact ⟨says_yes HD.out, (by first | exact hb1 | exact push hb1 _)⟩
  · have HD : Hid (¬ RoomsS p n S) := fun h => hd (rooms_iff.2 h)
    clear hd
    go_wp2
    go_ret
    exact ⟨says_no HD.out, (by first | exact hb1 | exact push hb1 _)⟩

set_option maxHeartbeats 800000 in
set_option maxRecDepth 100000 in
theorem implBerths_any (ao bo : Option Addr) (m mc n c : Nat) (p : Pairs) (S : Nat → Room) (w : World) (hl : p.n = m) (hm : m ≤ 1048576) (hn : n ≤ 1048576) (hc : n ≤ c) (hx : PairsAt w ao p) (hz : RoomsAt w bo n S) :
    Calls Tryz.prog 57 #[.slice ao m mc, .slice bo n c] w fun e w' => BerthsRes w' w.heap.size 3 p n S e ∧ Below w.heap.size w w' := by
  have HX : Hid (PairsAt w ao p) := hx
  have HZ : Hid (RoomsAt w bo n S) := hz
  have HL : Hid (p.n = m) := hl
  clear hx hz hl
  go_enter Tryz.func57, Tryz.ntmps57
  go_wp2_with fail
  refine (freeInCabins_any ao bo m mc n c p S _ HL.out hm hn hc HX.out HZ.out).mono ?_
  rintro e w1 ⟨hans, hb1⟩
  unfold FreeRAns six at hans
  rcases hans with ⟨hd, rfl⟩ | ⟨hd, rfl⟩
  · have HD : Hid (RoomsS p n S) := rooms_iff.1 hd
    have hm6 : m ≤ 6 := by rw [← HL.out]; exact hd.1.1
    clear hd
    have i1 : (0 : Int) ≤ (m : Int) := by omega
    have i2 : (m : Int) ≤ 6 := by omega
    have hb2 := push hb1 (.cells #[.int .i64 (freeR p S n 0), .int .i64 (freeR p S n 1), .int .i64 (freeR p S n 2), .int .i64 (freeR p S n 3), .int .i64 (freeR p S n 4), .int .i64 (freeR p S n 5)] 161)
    have HI : Hid (IntsAt (w1.alloc (.cells #[.int .i64 (freeR p S n 0), .int .i64 (freeR p S n 1), .int .i64 (freeR p S n 2), .int .i64 (freeR p S n 3), .int .i64 (freeR p S n 4), .int .i64 (freeR p S n 5)] 161)) (some ⟨w1.heap.size, 0, none⟩) m (leftR p S n)) := six_ints (F := freeR p S n) (heap_alloc_new w1 _) hm6 (fun k hk => if_pos (by rw [HL.out]; exact hk))
    go_wp2_with (first | (go_at_call 102; refine (cloneInts _ m _ (leftR p S n) _ hm HI.out).mono ?_; rintro e w2 ⟨⟨v, rfl, ho⟩, hb3⟩))
    exact bodyPost_ret (v := .tuple #[v, .bool true]) (by simp [results, Tryz.results57, go_sem]) rfl ⟨berthsRes_yes HD.out HL.out (own_base ho hb2.size), after hb2 hb3⟩
  · have HD : Hid (¬ RoomsS p n S) := fun h => hd (rooms_iff.2 h)
    clear hd
    go_wp2
    exact bodyPost_ret (v := .tuple #[.slice none 0 0, .bool false]) (by simp [results, Tryz.results57, go_sem]) rfl ⟨berthsRes_no HD.out, push hb1 _⟩

end Go.Proofs.YtlnadbnoemlpeaaGreat

namespace Go.Proofs.YtlnadbnoemlpeaaGreat
open Go.RowKit

theorem run_copy_k {P : Program} (w : World) (dT sT ty elem : TypeId) (g dLen dCap : Nat) (sp : Option Addr) (sLen sCap : Nat) (cur : Array Value) (t : TypeId) (cs : List Value) (sz : Nat)
    (hu : P.underlying dT = some (.slice elem)) (hs : (P.info? elem).map (·.size) = some sz)
    (hg : w.heap[g]? = some (.cells cur t (0, 0))) (hle : sLen ≤ dLen) (hn : cs.length = sLen * sz) (hnil : sp = none → sLen = 0 ∧ sCap = 0)
    (hsrc : ∀ a, sp = some a → ∀ j v, cs[j]? = some v → w.cell? (a.add j) = some v) (hfit : cs.length ≤ cur.size) (h1 : ∀ v ∈ cs, v.oneCell' = true) :
    (Builtin.copy_ #[dT, sT] ty #[.slice (some ⟨g, 0, none⟩) dLen dCap, .slice sp sLen sCap]).run P w =
      .ok (goInt sLen) (w.setRow g (cs ++ cur.toList.drop cs.length).toArray) := by
  cases sp with
  | none =>
    obtain ⟨rfl, rfl⟩ := hnil rfl
    have e : cs = [] := List.eq_nil_of_length_eq_zero (by rw [hn]; omega)
    subst e
    rw [run_copy_nil (P := P) w dT sT ty elem ⟨g, 0, none⟩ dLen dCap hu (by rw [hs]; rfl)]
    simp only [List.nil_append, List.length_nil, List.drop_zero, Array.toArray_toList]
    rw [setRow_self w g cur t (0, 0) hg]
    rfl
  | some a =>
    have hl := run_loadCells_list (P := P) w a cs (hsrc a rfl)
    have hst := run_storeCells_at P g 0 t cs 0 cur w hg (by simpa using hfit) h1
    have hmin : Nat.min sLen dLen = sLen := Nat.min_eq_left hle
    cases hq : P.info? elem with
    | none => simp [hq] at hs
    | some i =>
      have hi : i.size = sz := by simpa [hq] using hs
      rw [hn] at hl
      simp [Builtin.copy_, run_underlying hu, Builtin.lenOf, Builtin.firstCells, sizeOf, typeInfo, hq, hi, hmin, hl, hst]

/-- The same with the world behind it a variable. -/
theorem copy_k {P : Program} (w : World) (dT sT elem : TypeId) (g dLen dCap : Nat) (sp : Option Addr) (sLen sCap : Nat) (cur : Array Value) (t : TypeId) (cs : List Value) (sz : Nat)
    (hu : P.underlying dT = some (.slice elem)) (hs : (P.info? elem).map (·.size) = some sz)
    (hg : w.heap[g]? = some (.cells cur t (0, 0))) (hle : sLen ≤ dLen) (hn : cs.length = sLen * sz) (hnil : sp = none → sLen = 0 ∧ sCap = 0)
    (hsrc : ∀ a, sp = some a → ∀ j v, cs[j]? = some v → w.cell? (a.add j) = some v) (hfit : cs.length ≤ cur.size) (h1 : ∀ v ∈ cs, v.oneCell' = true) :
    ∃ w', (∀ ty, (Builtin.copy_ #[dT, sT] ty #[.slice (some ⟨g, 0, none⟩) dLen dCap, .slice sp sLen sCap]).run P w = .ok (goInt sLen) w') ∧
      w'.heap[g]? = some (.cells (cs ++ cur.toList.drop cs.length).toArray t (0, 0)) ∧ Below g w w' :=
  ⟨_, fun ty => run_copy_k (P := P) w dT sT ty elem g dLen dCap sp sLen sCap cur t cs sz hu hs hg hle hn hnil hsrc hfit h1, setRow_heap w g _ _ t _ hg,
    ⟨rfl, rfl, rfl, by simp [World.setRow], fun k hk => setRow_other w g k _ (by omega)⟩⟩

/-- The row of a list that the call made, as it lies. -/
theorem own_row {w : World} {base e size g n : Nat} {xs : List Value} (h : w.ownsRow base e size (.slice (some ⟨g, 0, none⟩) n n) n xs) : ∃ cur : Array Value, w.heap[g]? = some (.cells cur e (0, 0)) ∧ cur.size = n * size := by
  obtain ⟨_, h | ⟨g', cap, cur, e1, _, hh, _, _, hz, _⟩⟩ := h
  · cases h.1
  · simp only [Value.slice.injEq, Option.some.injEq, Addr.mk.injEq] at e1
    obtain ⟨⟨rfl, _, _⟩, _, rfl⟩ := e1
    exact ⟨cur, hh, hz⟩
theorem row_of_blk {w : World} {g t N : Nat} {xs : List Value} (h : w.heap[g]? = some (.cells xs.toArray t (0, 0))) (hN : xs.length = N) : w.rowIs g t N (fun j => xs.getD j (.bool false)) := by
  refine ⟨_, h, by simpa using hN, fun i hi => ?_⟩
  have : i < xs.length := by omega
  simp [List.getElem?_eq_getElem this]

end Go.Proofs.YtlnadbnoemlpeaaGreat
