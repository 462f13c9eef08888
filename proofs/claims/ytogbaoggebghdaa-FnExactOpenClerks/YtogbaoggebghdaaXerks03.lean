/-
  OWN TEXT: OpenI, SpecIn.
-/
import Derived.Test.YtogbaoggebghdaaRows
import Derived.Deep.RegionHeld3
import Derived.Test.YtogbaoggebghdaaXerks02
import Derived.Test.YtogbaoggebghdaaB22
import Derived.Test.YtogbaoggebghdaaB17
import Derived.Test.YtogbaoggebghdaaB00
namespace Go.Proofs.Ytogbaoggebghdaa
open Go.RowKit Classical Go.MapKept Go.ChangeMaps

theorem mem_openTo (S : Nat → ClkD) (s : ByteArray) : ∀ k, s ∈ openTo S k ↔ openIn S k s
  | 0 => ⟨fun h => (by cases h), fun ⟨_, hi, _⟩ => absurd hi (Nat.not_lt_zero _)⟩
  | k + 1 => by
    rw [openIn_succ, ← mem_openTo S s k]
    cases h : (S k).opn with
    | true => rw [openTo_yes h]; simp
    | false => rw [openTo_no h]; simp
theorem openTo_up {N : Nat} {S : Nat → ClkD} (h : ClerksOk N S) : ∀ k, k ≤ N → (openTo S k).Pairwise textLt
  | 0, _ => List.Pairwise.nil
  | k + 1, hk => by
    have ih := openTo_up h k (by omega)
    cases ho : (S k).opn with
    | false => rw [openTo_no ho]; exact ih
    | true =>
      rw [openTo_yes ho]
      refine List.pairwise_append.2 ⟨ih, List.pairwise_singleton _ _, fun a ha b hb => ?_⟩
      obtain rfl : b = (S k).nam := by simpa using hb
      obtain ⟨i, hi, _, rfl⟩ := (mem_openTo S a k).1 ha
      exact h.lt hi (by omega)
theorem encStr_data (s : ByteArray) : encStr s.data.toList = Value.string s := by simp [encStr]
/-- The keys of the set, sorted, are the names in their order. -/
theorem sorted_open {w : World} {mb K N : Nat} {S : Nat → ClkD} {D : DataW Unit} (h : ClerksOk N S) (hD : w.ownsMap Try.prog 9 (unitElem (H := Unit)) mb K D) (hO : ∀ s : ByteArray, Maps.has D (strLit s) = true ↔ openIn S N s) {ss : List (List UInt8)} (hp : ss.Perm (strKeys D)) :
    ss.length = (openTo S N).length ∧ (ss.mergeSort (fun x y => decide (x ≤ y))).map encStr = (openTo S N).map Value.string := by
  obtain ⟨es, e1, hpw⟩ := hD.tidy Try.keyedS
  obtain ⟨es', e2, hko⟩ := hD.keysOf
  obtain rfl : es = es' := by rw [e1] at e2; simpa using e2
  have up := openTo_up h N (Nat.le_refl _)
  have lt : ∀ {a b : ByteArray}, textLt a b → a.data.toList < b.data.toList := fun {a b} hab => by
    have := hab
    unfold textLt at this
    rw [less_eq, decide_eq_true_eq, ← data_list, ← data_list] at this
    exact this
  have hs : ((openTo S N).map (fun s => s.data.toList)).Pairwise (fun a b => a < b) := List.pairwise_map.2 (up.imp (fun h => lt h))
  have hq : ((openTo S N).map (fun s => s.data.toList)).Perm (strKeys D) := by
    rw [e1]
    refine perm_strKeys hpw (fun p hp => ?_) (hs.imp (fun h e => by rw [e] at h; exact List.lt_irrefl _ h)) (fun x => ?_)
    · obtain ⟨v, hv⟩ := hko p hp
      obtain ⟨x, _, hx, _⟩ := Maps.keyOf_str Try.underlying9 hv
      exact ⟨x, hx⟩
    · have hx := hO ⟨x.toArray⟩
      unfold strLit at hx
      rw [show ((⟨x.toArray⟩ : ByteArray).data.toList) = x from rfl, e1] at hx
      rw [hx, ← mem_openTo, List.mem_map]
      constructor
      · rintro ⟨s, hs, rfl⟩
        simpa using hs
      · exact fun hm => ⟨_, hm, rfl⟩
  have hr : ss.Perm ((openTo S N).map (fun s => s.data.toList)) := hp.trans hq.symm
  refine ⟨by rw [hr.length_eq, List.length_map], ?_⟩
  rw [show (ss.mergeSort (fun x y => decide (x ≤ y))) = ((openTo S N).map (fun s => s.data.toList)).mergeSort (fun x y => decide (x ≤ y)) from mergeSort_of_perm hr, List.mergeSort_of_pairwise (hs.imp (fun h => by simp only [decide_eq_true_eq]; exact List.le_of_lt h)), List.map_map]
  exact List.map_congr_left (fun s _ => encStr_data s)

set_option maxHeartbeats 3200000 in
set_option maxRecDepth 100000 in
theorem implOpen_any (ao : Option Addr) (N c : Nat) (S : Nat → ClkD) (w : World) (hN : N ≤ 1048576) (hs : ClkDsShort N S 1048576) (hx : ClkDsAt w ao N S) :
    Calls Try.prog 28 #[.slice ao N c] w fun e w' => (∃ v ok ks, e = .returned (.tuple #[v, .bool ok]) ∧ TextsIs w' w.heap.size v ks ∧ Hid (OpenAns (ClerksOk N S) (openTo S N) ks ok)) ∧ Below w.heap.size w w' := by
  have HX : Hid (ClkDsAt w ao N S) := hx
  have HS : Hid (ClkDsShort N S 1048576) := hs
  clear hx hs
  go_enter Try.func28, Try.ntmps28
  go_wp2_with fail
  refine (implGoodC_any ao N c S w hN HS.out HX.out).mono ?_
  rintro e w1 ⟨rfl, hb1⟩
  by_cases hok : ClerksOk N S
  case neg =>
    rw [show clerksOk N S = false from decide_eq_false hok]
    go_wp2
    exact bodyPost_ret (v := .tuple #[.slice none 0 0, .bool false]) (by simp [results, Try.results28, go_sem]) rfl ⟨⟨_, false, [], rfl, TextsIs.nil _ _, ⟨fun h => absurd h hok, fun _ => ⟨rfl, rfl⟩⟩⟩, hb1⟩
  rw [show clerksOk N S = true from decide_eq_true hok]
  have h20 : N ≤ 20 := hok.1
  have HOK : Hid (ClerksOk N S) := hok
  have HB1 : Hid (Below w.heap.size w w1) := hb1
  clear hok hb1
  go_wp2_with fail
  refine (staffOf_any ao N c S w1 h20 HS.out (HX.out.below HB1.out)).mono ?_
  rintro e w2 ⟨⟨sb, mb, a1, d1, R, rfl, h2⟩, hb2⟩
  have m1 := blk_cell h2.blk 1 _ rfl
  obtain ⟨D, hD, hO⟩ := h2.set
  have HD : Hid (w2.ownsMap Try.prog 9 (unitElem (H := Unit)) mb N D) := hD
  have HO : Hid (∀ s : ByteArray, Maps.has D (strLit s) = true ↔ openIn S N s) := hO
  have HB2 : Hid (Below w.heap.size w w2) := after HB1.out hb2
  clear h2 hb2 hD hO
  go_wp2_with fail
  refine (keysOf_any (some mb) w2).mono ?_
  rintro e w3 ⟨rfl, rfl⟩
  go_wp2_with fail
  refine (sortedKeys_any mb N D w2 HD.out (by omega)).mono ?_
  rintro e w4 ⟨v, ss, rfl, hS, hrow, hb4⟩
  obtain ⟨hl, hm⟩ := sorted_open HOK.out HD.out HO.out hS
  rw [hl, hm] at hrow
  clear hl hm hS
  obtain ⟨av, cv, rfl, _⟩ := own_form hrow
  go_wp2
  exact bodyPost_ret (v := .tuple #[.slice av (openTo S N).length cv, .bool true]) (by simp [results, Try.results28, go_sem]) rfl ⟨⟨_, true, openTo S N, rfl, own_base hrow HB2.out.size, ⟨fun _ => ⟨rfl, rfl⟩, fun h => absurd HOK.out h⟩⟩, after HB2.out hb4⟩

end Go.Proofs.Ytogbaoggebghdaa

namespace Go.Proofs.Ytogbaoggebghdaa
open Go.RowKit

theorem l1In_yes (x lo hi : Int) (w : World) (h1 : lo ≤ x) (h2 : x ≤ hi) :
    Calls Try.prog 46 #[.int .i64 x, .int .i64 lo, .int .i64 hi] w fun e w' => e = .returned (.bool true) ∧ w' = w := by
  have e1 : decide (lo ≤ x) = true := by simpa using h1
  have e2 : decide (x ≤ hi) = true := by simpa using h2
  go_enter Try.func46, Try.ntmps46
  go_wp2
  go_ret
  exact ⟨rfl, rfl⟩

theorem l1In_low (x lo hi : Int) (w : World) (h1 : x < lo) :
    Calls Try.prog 46 #[.int .i64 x, .int .i64 lo, .int .i64 hi] w fun e w' => e = .returned (.bool false) ∧ w' = w := by
  have e1 : decide (lo ≤ x) = false := by simpa using h1
  go_enter Try.func46, Try.ntmps46
  go_wp2
  go_ret
  exact ⟨rfl, rfl⟩

theorem l1In_high (x lo hi : Int) (w : World) (h1 : lo ≤ x) (h2 : hi < x) :
    Calls Try.prog 46 #[.int .i64 x, .int .i64 lo, .int .i64 hi] w fun e w' => e = .returned (.bool false) ∧ w' = w := by
  have e1 : decide (lo ≤ x) = true := by simpa using h1
  have e2 : decide (x ≤ hi) = false := by simpa using h2
  go_enter Try.func46, Try.ntmps46
  go_wp2
  go_ret
  exact ⟨rfl, rfl⟩

theorem l1In_no (x lo hi : Int) (w : World) (h : ¬ (lo ≤ x ∧ x ≤ hi)) :
    Calls Try.prog 46 #[.int .i64 x, .int .i64 lo, .int .i64 hi] w fun e w' => e = .returned (.bool false) ∧ w' = w := by
  by_cases h1 : lo ≤ x
  · exact l1In_high x lo hi w h1 (by omega)
  · exact l1In_low x lo hi w (by omega)

end Go.Proofs.Ytogbaoggebghdaa
