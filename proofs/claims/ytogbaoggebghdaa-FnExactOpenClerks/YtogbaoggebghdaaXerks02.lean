/-
  OWN TEXT: PlainOc, SortKs.
-/
import Derived.Shelf.SlIter.Nil
import Derived.Shelf.SortM.Plain
import Derived.Shelf.SortM.SortNone
import Derived.Ground.GgzProg
import Derived.Ground.SlgmProg
import Derived.Test.YtogbaoggebghdaaB09
import Derived.Test.YtogbaoggebghdaaXerks01
import Derived.Test.YtogbaoggebghdaaB10
namespace Go.Proofs.Ytogbaoggebghdaa
open Go.RowKit Classical

/-- The names of the open ones among the first k. -/
def openTo (S : Nat → ClkD) : Nat → List ByteArray
  | 0 => []
  | k + 1 => openTo S k ++ (if (S k).opn = true then [(S k).nam] else [])
theorem openTo_yes {S : Nat → ClkD} {k : Nat} (h : (S k).opn = true) : openTo S (k + 1) = openTo S k ++ [(S k).nam] := by
  show openTo S k ++ (if (S k).opn = true then [(S k).nam] else []) = _
  rw [if_pos h]
theorem openTo_no {S : Nat → ClkD} {k : Nat} (h : (S k).opn = false) : openTo S (k + 1) = openTo S k := by
  show openTo S k ++ (if (S k).opn = true then [(S k).nam] else []) = _
  rw [if_neg (by rw [h]; decide), List.append_nil]
theorem openTo_le (S : Nat → ClkD) (k : Nat) : (openTo S k).length ≤ k := by
  induction k with
  | zero => exact Nat.le_refl _
  | succ k ih =>
    cases h : (S k).opn with
    | true => rw [openTo_yes h, List.length_append]; simp only [List.length_cons, List.length_nil]; omega
    | false => rw [openTo_no h]; omega

/-- An own list of texts. -/
def TextsIs (w : World) (base : Nat) (v : Value) (l : List ByteArray) : Prop := w.ownsRow base 9 1 v l.length (l.map Value.string)
def getB (l : List ByteArray) (j : Nat) : ByteArray := (l[j]?).getD ⟨#[]⟩
theorem strList_get (l : List ByteArray) : strList (getB l) l.length = l.map Value.string := by
  unfold strList getB
  refine List.ext_getElem? (fun i => ?_)
  by_cases h : i < l.length
  · simp [h]
  · simp [h]
theorem TextsIs.below {w w' : World} {base : Nat} {v : Value} {l : List ByteArray} (h : TextsIs w base v l) (hb : Below w.heap.size w w') : TextsIs w' base v l := own_below hb h
theorem TextsIs.nil (w : World) (base : Nat) : TextsIs w base (.slice none 0 0) [] := World.ownsRow_nil _ _ _ _
theorem TextsIs.row {w : World} {base : Nat} {v : Value} {l : List ByteArray} (h : TextsIs w base v l) : w.ownsRow base 9 1 v l.length (strList (getB l) l.length) := by rw [strList_get]; exact h
theorem TextsIs.strs {w : World} {base c : Nat} {ao : Option Addr} {l : List ByteArray} (h : TextsIs w base (.slice ao l.length c) l) : StrsAt w ao l.length (getB l) := own_strs h.row

/-- What OpenClerks answers. -/
def OpenAns (P : Prop) (l : List ByteArray) (ks : List ByteArray) (ok : Bool) : Prop := (P → ks = l ∧ ok = true) ∧ (¬ P → ks = [] ∧ ok = false)
theorem openAns_one {P : Prop} {l ks ks' : List ByteArray} {ok ok' : Bool} (h : OpenAns P l ks ok) (h' : OpenAns P l ks' ok') : ks' = ks ∧ ok' = ok := by
  by_cases p : P
  · obtain ⟨rfl, rfl⟩ := h.1 p
    exact h'.1 p
  · obtain ⟨rfl, rfl⟩ := h.2 p
    exact h'.2 p
theorem openAns_len {P : Prop} {l ks : List ByteArray} {ok : Bool} {n : Nat} (h : OpenAns P l ks ok) (hl : l.length ≤ n) : ks.length ≤ n := by
  by_cases p : P
  · rw [(h.1 p).1]; exact hl
  · rw [(h.2 p).1]; exact Nat.zero_le _

end Go.Proofs.Ytogbaoggebghdaa

namespace Go.Proofs
open Go.Shelf
shelf_lay_g SlLaysZ.n7 Ggz 7 at Try 63 as Try.keysA
shelf_lay_g SlLaysZ.n6 Ggz 6 at Try 62 as Try.sortedA
shelf_lay_g SlLaysM.n6 Slgm 6 at Try 76 as Try.sortA
end Go.Proofs

namespace Go.Proofs.Ytogbaoggebghdaa
open Go.RowKit Go.Maps Go.Sort Go.Shelf

theorem sortsA (m : Nat) : AnyZ.SortsIn Try.prog Try.sortedA_ren Fence.wide m :=
  ⟨fun blk off cap ss W hH hblk hsz => callsIn_wide.2 (AnyM.slices_Sort_string Try.sortA blk off cap ss W hH hblk hsz),
   fun p cap W => callsIn_wide.2 (AnyM.slices_Sort_string_none Try.sortA p cap W)⟩

theorem keysOf_any (mb : Option Nat) (W : World) : Calls Try.prog 63 #[.map mb] W fun e w' => e = .returned (.func (.func 77) #[] #[.pointer (some ⟨W.heap.size, 0, none⟩)]) ∧ w' = W.alloc (.cells #[.map mb] 100) :=
  callsIn_wide.1 (show CallsIn Fence.wide 5 Try.prog 63 #[.map mb] W fun e w' => e = .returned (.func (.func 77) #[] #[.pointer (some ⟨W.heap.size, 0, none⟩)]) ∧ w' = W.alloc (.cells #[.map mb] 100) from AnyZ.keys_in Try.keysA Fence.wide 5 trivial rfl mb W)

set_option maxHeartbeats 1000000 in
theorem sortedKeys_any (b nn : Nat) (D0 : DataW Unit) (w : World) (hown : w.ownsMap Try.prog 9 (unitElem (H := Unit)) b nn D0) (hn : nn ≤ 1000) :
    Calls Try.prog 62 #[.func (.func 77) #[] #[.pointer (some ⟨w.heap.size, 0, none⟩)]] (w.alloc (.cells #[.map (some b)] 100)) fun e w' => ∃ (v : Value) (ss : List (List UInt8)), e = .returned v ∧ ss.Perm (strKeys D0) ∧
      w'.ownsRow w.heap.size 9 1 v ss.length ((ss.mergeSort (fun x y => decide (x ≤ y))).map encStr) ∧ Below w.heap.size w w' := by
  have hbl := hown.lt
  have hsz := hown.size_le
  have hseq : SeqGives Fence.wide 2 Try.prog 77 #[.pointer (some ⟨w.heap.size, 0, none⟩)] encStr (fun ss => ss.Perm (strKeys D0)) (Maps.size D0) (w.alloc (.cells #[.map (some b)] 100)) :=
    AnyZ.keys_gives (ρ := Try.keysA_ren) { Try.keysA with } Fence.wide _ trivial rfl (by omega) w.heap.size b nn D0 _ (by simp) (by simp) (by
      obtain ⟨es, clock, hb, Ft, hs, hD⟩ := hown
      exact ⟨es, clock, (Below.heap_alloc _ _ b hbl).trans hb, Ft, hs, hD⟩)
  have cS := AnyZ.sorted_in Try.sortedA Fence.wide 5 trivial trivial trivial trivial rfl (by omega) (sortsA _) (enters_of Try.func76 (by kernel_rfl) rfl) 77 #[.pointer (some ⟨w.heap.size, 0, none⟩)] trivial (enters_of Try.func77 (by kernel_rfl) rfl) _ _ (by unfold maxLen; omega) (by omega) _ hseq
  change CallsIn _ _ Try.prog 62 _ _ _ at cS
  refine (callsIn_wide.1 cS).mono ?_
  rintro e w' ⟨v, ss, rfl, hS, hrow, hnil, hb⟩
  exact ⟨v, ss, rfl, hS, ownsRow_base_a hrow (by simp), ((Below.refl _ w).alloc (Nat.le_refl _) _).trans (hb.mono (by simp))⟩

end Go.Proofs.Ytogbaoggebghdaa
