/-
  OWN TEXT: ShelfT, SpecNum.
-/
import Derived.Test.YtfbooamjddnagaaDoorRows
import Derived.Shelf.Lay
import Derived.Shelf.Strconv.Itoa3
import Derived.Shelf.Strings.OnBuilder
import Derived.Lib.AppendIntMem
import Derived.Deep.DeepCutAuto
import Derived.Deep.RegionHeld3
import Derived.Test.YtfbooamjddnagaaDoorB00
namespace Go.Proofs
open Go.Shelf
shelf_lay LaysM.n171 Nm 171 at Tryd as Tryd.lays171
shelf_lay Lays.n156 Nm 156 at Tryd as Tryd.lays156
set_option maxRecDepth 1000000 in
theorem Tryd.extra156 : Builder.Extra Tryd.prog Tryd.lays156_ren where
  sizeBuilder := by kernel_rfl
  liesBuilder := by kernel_rfl
  t5 := Tryd.underlying5
  a5 := Tryd.isAgg5
  z5 := Tryd.sizeOf5
  v5 := Tryd.zeroValue5
  infoByte := by kernel_rfl
  cellsByte := by kernel_rfl
  sizeByte := by kernel_rfl
  neB5 := by decide
end Go.Proofs

namespace Go.Proofs.YtfbooamjddnagaaDoor
open Go.RowKit

theorem Tryd.gPow : Tryd.prog.globalNamed "internal/strconv.uint64pow10" = some 4 := by kernel_rfl
/-- The table of the powers of ten lies there. -/
def PowAt (w : World) : Prop := Lib.TabIs Tryd.prog w "internal/strconv.uint64pow10" .u64 Lib.pow10Tab
theorem PowAt.below {w w' : World} (h : PowAt w) (hb : Below w.heap.size w w') : PowAt w' := by
  exact Lib.tabBelow_of_tabIs h w' hb
/-- A number's text. -/
def numT (n : Int) : ByteArray := ⟨(Lib.itoa n).toArray⟩
theorem itoa_any (n : Int) (h0 : -9223372036854775808 ≤ n) (h1 : n ≤ 9223372036854775807) (w : World) (h : PowAt w) :
    Calls Tryd.prog 77 #[.int .i64 n] w fun e w' => e = .returned (.string (numT n)) ∧ Below w.heap.size w w' :=
  (Any.strconv_Itoa Tryd.lays171 n h0 h1 w h).mono fun e w' ⟨he, k, os, hw⟩ => ⟨he, by subst hw; exact Lib.below_grow _ _ (Nat.le_refl _) _ _⟩

/-- Texts with a text between them. -/
def joinT (sep : ByteArray) (l : List ByteArray) : ByteArray := ⟨(Lib.join (l.map (·.data.toList)) sep.data.toList).toArray⟩
/-- A row of texts of one's own. -/
def OwnT (w : World) (base : Nat) (v : Value) (l : List ByteArray) : Prop := w.ownsRow base 9 1 v l.length (l.map Value.string)
theorem join_any (sep : ByteArray) (l : List ByteArray) (v : Value) (base : Nat) (w : World) (h : OwnT w base v l) (hN : l.length ≤ 1048576) (hl : (joinT sep l).size ≤ 140737488355328) :
    Calls Tryd.prog 33 #[v, .string sep] w fun e w' => e = .returned (.string (joinT sep l)) ∧ Below w.heap.size w w' := by
  obtain ⟨ao, c, rfl, hc, _⟩ := own_form h
  by_cases h0 : l.length = 0
  · have e : l = [] := List.length_eq_zero_iff.1 h0
    subst e
    exact (Any.strings_Join_none Tryd.lays156 Tryd.extra156 ao c sep w).mono fun e w' ⟨he, hw⟩ => ⟨he, by subst hw; exact Below.refl _ _⟩
  · obtain ⟨g, rfl, _, hg⟩ := own_addr h (by omega)
    refine Any.strings_Join Tryd.lays156 Tryd.extra156 g 0 c l sep w (fun j x hx => ?_) hg (by omega) hc (by
      have e : (joinT sep l).size = (Lib.join (l.map (·.data.toList)) sep.data.toList).length := by show (Lib.join (l.map (·.data.toList)) sep.data.toList).toArray.size = _; simp
      rw [← e]; exact hl)
    have hj : j < l.length := by
      rcases Nat.lt_or_ge j l.length with h' | h'
      · exact h'
      · rw [List.getElem?_eq_none h'] at hx; cases hx
    rw [Nat.zero_add]
    rw [h.cellAt j (by omega), List.getElem?_map, hx]; rfl

end Go.Proofs.YtfbooamjddnagaaDoor

namespace Go.Proofs.YtfbooamjddnagaaDoor
open Go.RowKit

theorem bs_push (a : List UInt8) (x : UInt8) : (⟨a.toArray⟩ : ByteArray) ++ ByteArray.empty.push x = ⟨(a ++ [x]).toArray⟩ := by
  apply ByteArray.ext
  simp [ByteArray.data_append]
theorem bs_push0 (x : UInt8) : ByteArray.empty.push x = ⟨[x].toArray⟩ := rfl
theorem conv_at (W : World) (b : Nat) (x : Int) (h : W.heap[b]? = some (.cells #[.int .u8 x] 5 (0, 0))) :
    (convert 104 9 (.slice (some ⟨b, 0, none⟩) 1 1)).run Tryd.prog W = .ok (.string (ByteArray.empty.push (UInt8.ofNat x.toNat))) W := by
  rw [run_convert_bytes_string _ 104 9 5 _ 1 1 Tryd.underlying104 Tryd.underlying5 Tryd.underlying9]
  exact run_bytesToString _ _ 1 1 [x] (run_loadCells_list _ _ [.int .u8 x] (fun j v hj => by
    cases j with
    | zero => simp at hj; subst hj; exact blk_cell h 0 _ rfl
    | succ j => simp at hj))
theorem dec_step {u : Nat} (h : ¬ u < 10) : Lib.decDigits u = Lib.decDigits (u / 10) ++ [UInt8.ofNat (48 + (u : Int) % 10).toNat] := by
  rw [Lib.decDigits, dif_neg h]
  rfl
theorem dec_size (u : Nat) (h : u ≤ 9223372036854775807) : (Lib.decDigits u).length ≤ 100 := by
  rw [Lib.decDigits_length]
  have h1 : ∀ k u, u < 10 ^ (k + 1) → Lib.nDigits u ≤ k + 1 := by
    intro k
    induction k with
    | zero => intro u hu; rw [Lib.nDigits_small (by simpa using hu)]; omega
    | succ k ih =>
      intro u hu
      by_cases c : u < 10
      · rw [Lib.nDigits_small c]; omega
      · rw [Lib.nDigits_big c]
        have := ih (u / 10) (by rw [Nat.pow_succ] at hu; omega)
        omega
  have := h1 18 u (by omega)
  omega

set_option maxHeartbeats 1600000 in
set_option maxRecDepth 100000 in
theorem l1Num_nat : ∀ (u : Nat) (w : World), u ≤ 9223372036854775807 →
    Calls Tryd.prog 66 #[.int .i64 u] w fun e w' => e = .returned (.string ⟨(Lib.decDigits u).toArray⟩) ∧ Below w.heap.size w w' := by
  intro u
  induction u using Nat.strongRecOn with
  | _ u ih =>
    intro w hu
    have d0 : decide ((u : Int) < 0) = false := decide_eq_false (by omega)
    by_cases h10 : u < 10
    · have d1 : decide ((u : Int) < 10) = true := decide_eq_true (by omega)
      have hw1 : IntKind.i64.wrap (48 + (u : Int)) = 48 + (u : Int) := by rw [IntKind.wrap_i64]; omega
      have hw2 : IntKind.u8.wrap (48 + (u : Int)) = 48 + (u : Int) := by unfold IntKind.wrap; simp [IntKind.bits, IntKind.signed]; omega
      have hc := conv_at (w.alloc (.cells #[.int .u8 (48 + (u : Int))] 5)) w.heap.size (48 + (u : Int)) (heap_alloc_new _ _)
      have hb : Below w.heap.size w (w.alloc (.cells #[.int .u8 (48 + (u : Int))] 5)) := push (Below.refl _ _) _
      go_enter Tryd.func66, Tryd.ntmps66
      go_wp2
      go_ret
      refine ⟨?_, hb⟩
      rw [Lib.decDigits_one h10]
      congr 3
    · have d1 : decide ((u : Int) < 10) = false := decide_eq_false (by omega)
      have hw1 : IntKind.i64.wrap (48 + (u : Int) % 10) = 48 + (u : Int) % 10 := by rw [IntKind.wrap_i64]; omega
      have hw2 : IntKind.u8.wrap (48 + (u : Int) % 10) = 48 + (u : Int) % 10 := by unfold IntKind.wrap; simp [IntKind.bits, IntKind.signed]; omega
      have hq : IntKind.i64.wrap ((u : Int) / 10) = (u : Int) / 10 := by rw [IntKind.wrap_i64]; omega
      have htm : (u : Int).tmod 10 = (u : Int) % 10 := Int.tmod_eq_emod_of_nonneg (by omega)
      have HI : Hid (∀ W : World, Calls Tryd.prog 66 #[.int .i64 ((u : Int) / 10)] W fun e w' => e = .returned (.string ⟨(Lib.decDigits (u / 10)).toArray⟩) ∧ Below W.heap.size W w') := fun W => ih (u / 10) (by omega) W (by omega)
      have HC : Hid (∀ W b, W.heap[b]? = some (.cells #[.int .u8 (48 + (u : Int) % 10)] 5 (0, 0)) → (convert 104 9 (.slice (some ⟨b, 0, none⟩) 1 1)).run Tryd.prog W = .ok (.string (ByteArray.empty.push (UInt8.ofNat (48 + (u : Int) % 10).toNat))) W) := fun W b h => conv_at W b _ h
      have hsz := dec_size (u / 10) (by omega)
      have hsum : ∀ W : World, (Op.stringOp .add ⟨(Lib.decDigits (u / 10)).toArray⟩ (ByteArray.empty.push (UInt8.ofNat (48 + (u : Int) % 10).toNat))).run Tryd.prog W = .ok (.string (⟨(Lib.decDigits (u / 10)).toArray⟩ ++ ByteArray.empty.push (UInt8.ofNat (48 + (u : Int) % 10).toNat))) W := fun W => run_string_add_sum W _ _ (by
        show (Lib.decDigits (u / 10)).toArray.size + 1 ≤ _
        rw [List.size_toArray]; omega)
      clear ih
      go_enter Tryd.func66, Tryd.ntmps66
      go_upto_region 7 with fail
      have hc1 := HC.out (w.drew.alloc (.cells #[.int .u8 (48 + (u : Int) % 10)] 5)) _ (heap_alloc_new _ _)
      have hc5 := HC.out (w.alloc (.cells #[.int .u8 (48 + (u : Int) % 10)] 5)).drew w.heap.size (heap_alloc_new w _)
      have hc2 := HC.out (w.alloc (.cells #[.int .u8 (48 + (u : Int) % 10)] 5)) _ (heap_alloc_new _ _)
      go_region_with (first
        | (go_at_call 66; (with_reducible refine Calls.mono (HI.out _) ?_); rintro e w' ⟨rfl, hb⟩; have hc3 := HC.out (w'.alloc (.cells #[.int .u8 (48 + (u : Int) % 10)] 5)) _ (heap_alloc_new _ _); have hc6 := HC.out (w'.alloc (.cells #[.int .u8 (48 + (u : Int) % 10)] 5)).drew w'.heap.size (heap_alloc_new w' _); (first | (have hc4 := HC.out w' w.heap.size (blk_below (heap_alloc_new w.drew _) hb)) | (have hc4 := HC.out w' w.heap.size (blk_below (heap_alloc_new w _) hb)) | skip)))
      all_goals
        go_wp2
        go_ret
        refine ⟨?_, ?_⟩
        · refine Eq.trans (b := .returned (.string (⟨(Lib.decDigits (u / 10)).toArray⟩ ++ ByteArray.empty.push (UInt8.ofNat (48 + (u : Int) % 10).toNat)))) rfl ?_
          rw [bs_push, dec_step h10]
        · first | exact after (after (Below.refl _ _).drew hb) (push (Below.refl _ _) _) | exact after (push (Below.refl _ _) _).drew hb | exact after (push (Below.refl _ _) _) (hb.drew)

end Go.Proofs.YtfbooamjddnagaaDoor
