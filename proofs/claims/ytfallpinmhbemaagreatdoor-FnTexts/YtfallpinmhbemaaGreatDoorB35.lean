/-
  OWN TEXT: WordI, CutI, KitBx, PartyR, LegsR.
-/
import Derived.Shelf.Strconv.Clone
import Derived.Shelf.Strings.Search2
import Derived.Lib.IndexLaws
import Derived.Test.YtfallpinmhbemaaGreatDoorB34
import Derived.Test.YtfallpinmhbemaaGreatDoorB00
namespace Go.Proofs
open Go.Shelf
shelf_lay LaysM.n316 Nm 316 at Tryz as Tryz.lays316
end Go.Proofs

namespace Go.Proofs.YtfallpinmhbemaaGreatDoor
open Go.RowKit

/-- The box b has the words l. -/
def WSt (w : World) (b : Nat) (l : List ByteArray) : Prop :=
  ∃ (ao : Option Addr) (c : Nat), w.heap[b]? = some (.cells #[.slice ao l.length c] 94 (0, 0)) ∧ l.length ≤ c ∧ c ≤ maxLen ∧
    ∀ j x, l[j]? = some x → ∃ g off cur, ao = some ⟨g, off, none⟩ ∧ w.cell? ⟨g, off + j, none⟩ = some (.string x) ∧ w.heap[g]? = some (.cells cur 9 (0, 0))
theorem WSt.kept {w w' : World} {b : Nat} {l : List ByteArray} {S : Nat → Prop} (h : WSt w b l) (hk : Kept w w' S) (hb : ¬ S b) (hS : ∀ g cur, w.heap[g]? = some (.cells cur 9 (0, 0)) → ¬ S g) : WSt w' b l := by
  obtain ⟨ao, c, h1, h2, h3, h4⟩ := h
  refine ⟨ao, c, hk.blk h1 hb, h2, h3, fun j x hx => ?_⟩
  obtain ⟨g, off, cur, e, k1, k2⟩ := h4 j x hx
  refine ⟨g, off, cur, e, ?_, hk.blk k2 (hS g cur k2)⟩
  rw [← k1]
  exact World.cell?_of_block ((hk.blk k2 (hS g cur k2)).trans k2.symm)
theorem WSt.below {w w' : World} {b : Nat} {l : List ByteArray} (h : WSt w b l) (hb : Below w.heap.size w w') : WSt w' b l := h.kept (Kept.of_below (S := fun _ => False) hb) (fun h => h) (fun _ _ _ h => h)

theorem pow_kept {w w' : World} {S : Nat → Prop} (h : PowAt w) (hk : Kept w w' S) (hg : ¬ S 4) : PowAt w' := by
  unfold PowAt Lib.TabIs World.var? at *
  rw [Tryz.gPow] at h ⊢
  simp only [Option.bind_some] at h ⊢
  have hlt : 4 < w.heap.size := by
    rcases Nat.lt_or_ge 4 w.heap.size with h' | h'
    · exact h'
    · rw [Array.getElem?_eq_none h'] at h; simp at h
  rw [hk.block _ hlt hg]
  exact h
theorem wordsIn_any (s : ByteArray) (w : World) (hs : s.size ≤ 1048576) :
    Calls Tryz.prog 22 #[.string s] w fun e w' => ∃ b l, e = .returned (.pointer (some ⟨b, 0, none⟩)) ∧ w.heap.size ≤ b ∧ Hid (WSt w' b l ∧ Parts 32 s l ∧ l.length ≤ s.size + 1) ∧ Below w.heap.size w w' := by
  go_enter Tryz.func22, Tryz.ntmps22
  go_wp2_with fail
  refine (partsIn_any s 32 _ (by decide) hs).mono ?_
  rintro e w2 ⟨v, l, rfl, ho, hp, hb⟩
  obtain ⟨ao, c, rfl, hc, hm, hn⟩ := own_form ho
  have hW : WSt (w2.alloc (.cells #[.slice ao l.length c] 94)) w2.heap.size l := by
    refine ⟨ao, c, heap_alloc_new w2 _, hc, hm, fun j x hx => ?_⟩
    have hj : j < l.length := by
      rcases Nat.lt_or_ge j l.length with h | h
      · exact h
      · rw [List.getElem?_eq_none h] at hx; cases hx
    obtain ⟨g, rfl, _, hg⟩ := own_addr ho (by omega)
    have hcell : w2.cell? ⟨g, j, none⟩ = some (.string x) := by rw [World.ownsRow.cellAt ho j (by omega), List.getElem?_map, hx]; rfl
    rcases ho.2 with ⟨h0, _⟩ | ⟨g', cap', cur, hv, _, hg', _⟩
    · cases h0
    · simp only [Value.slice.injEq, Option.some.injEq, Addr.mk.injEq] at hv
      obtain ⟨⟨rfl, _, _⟩, _, rfl⟩ := hv
      exact ⟨g, 0, cur, rfl, by rw [Nat.zero_add]; exact ((push (Below.refl _ w2) _).cell hg).trans hcell, blk_alloc hg' _⟩
  have HW : Hid (WSt (w2.alloc (.cells #[.slice ao l.length c] 94)) w2.heap.size l ∧ Parts 32 s l ∧ l.length ≤ s.size + 1) := ⟨hW, hp.out⟩
  have hb2 : Below w.heap.size w (w2.alloc (.cells #[.slice ao l.length c] 94)) := push hb _
  have hsz := hb.size
  clear hW hp ho
  go_wp2
  go_ret
  exact ⟨_, l, rfl, hsz, HW, hb2⟩

set_option maxHeartbeats 800000 in
theorem wordNext_any (b : Nat) (l : List ByteArray) (w : World) (h : WSt w b l) :
    Calls Tryz.prog 51 #[.pointer (some ⟨b, 0, none⟩)] w fun e w' => e = .returned (.string (l.headD ⟨#[]⟩)) ∧ Hid (WSt w' b l.tail) ∧ Kept w w' (fun k => k = b) := by
  cases l with
  | nil =>
    have HW : Hid (WSt w b []) := h
    obtain ⟨ao, c, h1, _⟩ := h
    have y0 := blk_cell h1 0 _ rfl
    simp only [List.length_nil] at y0
    go_enter Tryz.func51, Tryz.ntmps51
    go_wp2
    go_ret
    exact ⟨rfl, HW, Kept.refl _ _⟩
  | cons x r =>
    have HW : Hid (WSt w b (x :: r)) := h
    obtain ⟨ao, c, h1, h2, h3, h4⟩ := h
    obtain ⟨g, off, cur, rfl, k1, k2⟩ := h4 0 x rfl
    have y0 := blk_cell h1 0 _ rfl
    have f0 := blk_free h1 0
    rw [List.length_cons] at y0 h2
    rw [Nat.add_zero] at k1
    have hne : g ≠ b := fun e => by
      rw [e, h1] at k2
      simp only [Option.some.injEq, Obj.cells.injEq] at k2
      exact absurd k2.2.1 (by decide)
    have H4 : Hid (∀ j y, (x :: r)[j]? = some y → ∃ g' off' cur, (some ⟨g, off, none⟩ : Option Addr) = some ⟨g', off', none⟩ ∧ w.cell? ⟨g', off' + j, none⟩ = some (.string y) ∧ w.heap[g']? = some (.cells cur 9 (0, 0))) := h4
    have H1 : Hid (w.heap[b]? = some (.cells #[.slice (some ⟨g, off, none⟩) (x :: r).length c] 94 (0, 0))) := h1
    have d0 : (((r.length + 1 : Nat) : Int) == 0) = false := by rw [beq_eq_false_iff_ne]; omega
    have d1 : (((r.length : Int) + 1) == 0) = false := by rw [beq_eq_false_iff_ne]; omega
    have i1 : (1 : Int) ≤ (r.length : Int) + 1 := by omega
    clear h4 h1 h3
    have key : ∀ (ad : Option Addr) (c' : Nat), c' = c - 1 → (0 < r.length → ad = some ⟨g, off + 1, none⟩) → WSt (w.setCell ⟨b, 0, none⟩ (.slice ad r.length c')) b r := fun ad c' hc' had => by
      refine ⟨ad, c', blk_set H1.out 0 _, by omega, by have := HW.out; obtain ⟨_, c2, q1, _, q3, _⟩ := this; rw [H1.out] at q1; simp at q1; omega, fun j y hy => ?_⟩
      have hj : j < r.length := by
        rcases Nat.lt_or_ge j r.length with h | h
        · exact h
        · rw [List.getElem?_eq_none h] at hy; cases hy
      obtain ⟨g', off', cur', e, q1, q2⟩ := H4.out (j + 1) y (by simpa using hy)
      simp only [Option.some.injEq, Addr.mk.injEq, and_true] at e
      obtain ⟨rfl, rfl⟩ := e
      refine ⟨g, off + 1, cur', had (by omega), ?_, blk_set_other q2 0 _ hne⟩
      rw [show off + 1 + j = off + (j + 1) by omega, ← q1]
      exact World.cell?_of_block ((blk_set_other q2 0 _ hne).trans q2.symm)
    have HKEY : Hid (∀ (ad : Option Addr) (c' : Nat), c' = c - 1 → (0 < r.length → ad = some ⟨g, off + 1, none⟩) → WSt (w.setCell ⟨b, 0, none⟩ (.slice ad r.length c')) b r) := key
    clear key
    by_cases hc : c = 1
    · subst hc
      have hr0 : r.length = 0 := by omega
      go_enter Tryz.func51, Tryz.ntmps51
      go_wp2
      go_ret
      refine ⟨rfl, ?_, (Kept.refl w (fun k => k = b)).set (a := ⟨b, 0, none⟩) rfl _⟩
      show WSt _ b r
      have hk9 := HKEY.out (some ⟨g, off, none⟩) 0 rfl (fun h => by omega)
      rw [hr0] at hk9
      first | exact hk9 | (simpa [hr0] using hk9)
    · have hc1 : (c = 1) = False := eq_false hc
      go_enter Tryz.func51, Tryz.ntmps51
      go_wp2
      go_ret
      refine ⟨rfl, ?_, (Kept.refl w (fun k => k = b)).set (a := ⟨b, 0, none⟩) rfl _⟩
      show WSt _ b r
      exact HKEY.out _ _ (by first | rfl | omega) (fun h => by first | rfl | simp)

set_option maxRecDepth 100000 in
theorem name_any (b : Nat) (l : List ByteArray) (w : World) (h : WSt w b l) (hl : (l.headD ⟨#[]⟩).size ≤ 281474976710656) :
    Calls Tryz.prog 53 #[.pointer (some ⟨b, 0, none⟩)] w fun e w' => e = .returned (.string (l.headD ⟨#[]⟩)) ∧ Hid (WSt w' b l.tail) ∧ Kept w w' (fun k => k = b) := by
  generalize hx : l.headD ⟨#[]⟩ = x at hl ⊢
  have hc : ∀ W : World, Calls Tryz.prog 91 #[.string x] W fun e w' => e = .returned (.string x) ∧ Below W.heap.size W w' := fun W => by
    go_enter Tryz.func91, Tryz.ntmps91
    go_wp2_with fail
    refine (Any.stringslite_Clone Tryz.lays316 x _ hl).mono ?_
    rintro e w2 ⟨rfl, hb⟩
    go_wp2
    go_ret
    exact ⟨rfl, hb⟩
  have HC : Hid (∀ W : World, Calls Tryz.prog 91 #[.string x] W fun e w' => e = .returned (.string x) ∧ Below W.heap.size W w') := hc
  have cn := wordNext_any b l w h
  rw [hx] at cn
  clear hc hx h
  go_enter Tryz.func53, Tryz.ntmps53
  go_wp2_with fail
  refine cn.mono ?_
  clear cn
  rintro e w2 ⟨rfl, HW, hk⟩
  go_wp2_with fail
  refine (HC.out _).mono ?_
  rintro e w3 ⟨rfl, hb⟩
  have HW3 : Hid (WSt w3 b l.tail) := HW.out.below hb
  clear HW
  go_wp2
  go_ret
  exact ⟨rfl, HW3, hk.trans (Kept.of_below hb)⟩

set_option maxRecDepth 100000 in
theorem number_any (b : Nat) (l : List ByteArray) (w : World) (h : WSt w b l) (hP : PowAt w) (hg : 4 ≠ b) :
    Calls Tryz.prog 52 #[.pointer (some ⟨b, 0, none⟩)] w fun e w' => e = .returned (.int .i64 (numOf (l.headD ⟨#[]⟩))) ∧ Hid (WSt w' b l.tail) ∧ Kept w w' (fun k => k = b) := by
  generalize hx : l.headD ⟨#[]⟩ = x
  have HP : Hid (PowAt w) := hP
  have cn := wordNext_any b l w h
  rw [hx] at cn
  clear h hP hx
  go_enter Tryz.func52, Tryz.ntmps52
  go_wp2_with fail
  refine cn.mono ?_
  clear cn
  rintro e w2 ⟨rfl, HW, hk⟩
  have hP2 : PowAt w2 := pow_kept (S := fun k => k = b) HP.out hk hg
  have HP2 : Hid (PowAt w2) := hP2
  clear hP2
  go_wp2_with fail
  refine (numberIn_any x _ HP2.out).mono ?_
  rintro e w3 ⟨rfl, hb⟩
  have HW3 : Hid (WSt w3 b l.tail) := HW.out.below hb
  clear HW
  go_wp2
  go_ret
  exact ⟨rfl, HW3, hk.trans (Kept.of_below hb)⟩

end Go.Proofs.YtfallpinmhbemaaGreatDoor

namespace Go.Proofs
open Go.Shelf
shelf_lay Lays.n219 Nm 219 at Tryz as Tryz.lays219
end Go.Proofs

namespace Go.Proofs.YtfallpinmhbemaaGreatDoor
open Go.RowKit

def cutF (p : UInt8) (s : ByteArray) : Bool := decide (0 ≤ Lib.indexByte s.data.toList p)
def cutA (p : UInt8) (s : ByteArray) : ByteArray := if cutF p s = true then s.extract 0 (Lib.indexByte s.data.toList p).toNat else s
def cutB (p : UInt8) (s : ByteArray) : ByteArray := if cutF p s = true then s.extract ((Lib.indexByte s.data.toList p).toNat + 1) s.size else ⟨#[]⟩
theorem index_at {p : UInt8} {s : ByteArray} {o : Nat} (h : Lib.indexByte s.data.toList p = o) : o < s.size := by
  have h1 := (Lib.indexByte_some h).1
  rcases Nat.lt_or_ge o s.data.toList.length with h2 | h2
  · rwa [Array.length_toList] at h2
  · rw [List.getElem?_eq_none h2] at h1; cases h1
theorem cut_is (p : UInt8) (s : ByteArray) : CutIs p s (cutA p s) (cutB p s) (cutF p s) := by
  have hl : s.data.toList.length = s.size := Array.length_toList
  by_cases h : 0 ≤ Lib.indexByte s.data.toList p
  · obtain ⟨o, ho⟩ := Int.eq_ofNat_of_zero_le h
    have hF : cutF p s = true := decide_eq_true h
    have hlt := index_at ho
    obtain ⟨h1, h2⟩ := Lib.indexByte_some ho
    unfold CutIs cutA cutB
    rw [if_pos hF, if_pos hF, ho, Int.toNat_natCast, sub_list, sub_list]
    refine ⟨?_, .inl ⟨hF, ?_⟩⟩
    · intro hm
      obtain ⟨i, hi⟩ := List.mem_iff_getElem?.1 hm
      rw [List.getElem?_take] at hi
      split at hi
      · rename_i hlt2
        simp at hi hlt2
        exact h2 i hlt2 (by simpa using hi)
      · cases hi
    · rw [Nat.sub_zero, List.drop_zero, List.take_of_length_le (l := List.drop (o + 1) s.data.toList) (by rw [List.length_drop]; omega)]
      have h3 : s.data.toList.drop o = p :: s.data.toList.drop (o + 1) := by
        rw [List.drop_eq_getElem_cons (by omega)]
        rw [List.getElem?_eq_getElem (by omega)] at h1
        congr 1
        simpa using h1
      rw [← h3, List.take_append_drop]
  · have hF : cutF p s = false := decide_eq_false h
    have hn : Lib.indexByte s.data.toList p = -1 := by have := Lib.indexByte_ge s.data.toList p; omega
    unfold CutIs cutA cutB
    rw [if_neg (by rw [hF]; decide), if_neg (by rw [hF]; decide)]
    refine ⟨fun hm => ?_, .inr ⟨hF, rfl, rfl⟩⟩
    obtain ⟨i, hi⟩ := List.mem_iff_getElem?.1 hm
    exact Lib.indexByte_none hn i hi
theorem cut_size (p : UInt8) (s : ByteArray) : (cutA p s).size ≤ s.size ∧ (cutB p s).size ≤ s.size := by
  unfold cutA cutB
  constructor
  · split
    · rw [ByteArray.size_extract]; omega
    · exact Nat.le_refl _
  · split
    · rw [ByteArray.size_extract]; omega
    · exact Nat.zero_le _

set_option maxHeartbeats 800000 in
set_option maxRecDepth 100000 in
theorem liteCut_any (s : ByteArray) (p : UInt8) (w : World) (hs : s.size ≤ 1000000000000) :
    Calls Tryz.prog 109 #[.string s, .string ⟨#[p]⟩] w fun e w' => e = .returned (.tuple #[.string (cutA p s), .string (cutB p s), .bool (cutF p s)]) ∧ Below w.heap.size w w' := by
  have hge := Lib.indexByte_ge s.data.toList p
  have h1 : (⟨#[p]⟩ : ByteArray).size = 1 := rfl
  by_cases h : 0 ≤ Lib.indexByte s.data.toList p
  · obtain ⟨o, ho⟩ := Int.eq_ofNat_of_zero_le h
    have hF : cutF p s = true := decide_eq_true h
    have hlt := index_at ho
    have HE : Hid (cutA p s = s.extract 0 o ∧ cutB p s = s.extract (o + 1) s.size ∧ cutF p s = true) := by
      refine ⟨?_, ?_, hF⟩
      · unfold cutA; rw [if_pos hF, ho, Int.toNat_natCast]
      · unfold cutB; rw [if_pos hF, ho, Int.toNat_natCast]
    have ci := Any.stringslite_Index_one Tryz.lays219 s p w
    rw [ho] at ci
    have i1 : (0 : Int) ≤ (o : Int) := by omega
    have i2 : (o : Int) ≤ (s.size : Int) := by omega
    have i3 : (o : Int) + 1 ≤ (s.size : Int) := by omega
    have i4 : (0 : Int) ≤ (o : Int) + 1 := by omega
    have hw : IntKind.i64.wrap ((o : Int) + 1) = (o : Int) + 1 := by rw [IntKind.wrap_i64]; omega
    have ht : ((o : Int) + 1).toNat = o + 1 := by omega
    have dg : decide ((0 : Int) ≤ (o : Int)) = true := decide_eq_true i1
    clear h hF ho hge
    go_enter Tryz.func109, Tryz.ntmps109
    go_wp2_with fail
    refine ci.mono ?_
    clear ci
    rintro e w2 ⟨rfl, hw2⟩
    have hw2 := hw2.symm
    subst hw2
    go_upto_region 3 with fail
    go_quiet (fail)
    go_wp2
    exact bodyPost_ret (v := .tuple #[.string (s.extract 0 o), .string (s.extract (o + 1) s.size), .bool true]) (by simp [results, Tryz.results109, go_sem]) rfl ⟨by rw [HE.out.1, HE.out.2.1, HE.out.2.2], below_drewN (Below.refl _ _) _⟩
  · have hn : Lib.indexByte s.data.toList p = -1 := by omega
    have hF : cutF p s = false := decide_eq_false h
    have HE : Hid (cutA p s = s ∧ cutB p s = ⟨#[]⟩ ∧ cutF p s = false) := by
      refine ⟨?_, ?_, hF⟩
      · unfold cutA; rw [if_neg (by rw [hF]; decide)]
      · unfold cutB; rw [if_neg (by rw [hF]; decide)]
    have ci := Any.stringslite_Index_one Tryz.lays219 s p w
    rw [hn] at ci
    clear h hF hn hge
    go_enter Tryz.func109, Tryz.ntmps109
    go_wp2_with fail
    refine ci.mono ?_
    clear ci
    rintro e w2 ⟨rfl, hw2⟩
    have hw2 := hw2.symm
    subst hw2
    go_wp2
    exact bodyPost_ret (v := .tuple #[.string s, .string ⟨#[]⟩, .bool false]) (by simp [results, Tryz.results109, go_sem]) rfl ⟨by rw [HE.out.1, HE.out.2.1, HE.out.2.2], Below.refl _ _⟩

theorem cut_any (s : ByteArray) (p : UInt8) (w : World) (hs : s.size ≤ 1000000000000) :
    Calls Tryz.prog 92 #[.string s, .string ⟨#[p]⟩] w fun e w' => e = .returned (.tuple #[.string (cutA p s), .string (cutB p s), .bool (cutF p s)]) ∧ Below w.heap.size w w' := by
  have ci := liteCut_any s p w hs
  generalize cutA p s = a at ci ⊢
  generalize cutB p s = b at ci ⊢
  generalize cutF p s = f at ci ⊢
  go_enter Tryz.func92, Tryz.ntmps92
  go_wp2_with fail
  refine ci.mono ?_
  rintro e w2 ⟨rfl, hb⟩
  go_wp2
  exact bodyPost_ret (v := .tuple #[.string a, .string b, .bool f]) (by simp [results, Tryz.results92, go_sem]) rfl ⟨rfl, hb⟩

set_option maxHeartbeats 800000 in
theorem pairIn_any (s : ByteArray) (w : World) (hs : s.size ≤ 1000000000000) (hP : PowAt w) :
    Calls Tryz.prog 93 #[.string s] w fun e w' => e = .returned (.tuple #[.int .i64 (numOf (cutA 47 s)), .int .i64 (numOf (cutB 47 s))]) ∧ Below w.heap.size w w' := by
  have HP : Hid (PowAt w) := hP
  have ci := cut_any s 47 w hs
  clear hP
  generalize cutA 47 s = a at ci ⊢
  generalize cutB 47 s = b at ci ⊢
  go_enter Tryz.func93, Tryz.ntmps93
  go_wp2_with fail
  refine ci.mono ?_
  clear ci
  rintro e w2 ⟨rfl, hb⟩
  go_wp2_with fail
  refine (numberIn_any a _ (HP.out.below hb)).mono ?_
  rintro e w3 ⟨rfl, hb3⟩
  have hb3 := after hb hb3
  go_wp2_with fail
  refine (numberIn_any b _ (HP.out.below hb3)).mono ?_
  rintro e w4 ⟨rfl, hb4⟩
  go_wp2
  exact bodyPost_ret (v := .tuple #[.int .i64 (numOf a), .int .i64 (numOf b)]) (by simp [results, Tryz.results93, go_sem]) rfl ⟨rfl, after hb3 hb4⟩

end Go.Proofs.YtfallpinmhbemaaGreatDoor

namespace Go.Proofs.YtfallpinmhbemaaGreatDoor
open Go.RowKit

theorem box_6 {w : World} {b t : Nat} {r0 r1 r2 r3 r4 r5 : Value} (h : w.heap[b]? = some (.cells #[r0, r1, r2, r3, r4, r5] t (0, 0))) (v0 v1 v2 v3 v4 v5 : Value) :
    (World.setCell (World.setCell (World.setCell (World.setCell (World.setCell (World.setCell w ⟨b, 0, none⟩ v0) ⟨b, 1, none⟩ v1) ⟨b, 2, none⟩ v2) ⟨b, 3, none⟩ v3) ⟨b, 4, none⟩ v4) ⟨b, 5, none⟩ v5).heap[b]? = some (.cells #[v0, v1, v2, v3, v4, v5] t (0, 0)) := by
  have h0 : (World.setCell w ⟨b, 0, none⟩ v0).heap[b]? = some (.cells #[v0, r1, r2, r3, r4, r5] t (0, 0)) := by simpa using blk_set h 0 v0
  have h1 : (World.setCell (World.setCell w ⟨b, 0, none⟩ v0) ⟨b, 1, none⟩ v1).heap[b]? = some (.cells #[v0, v1, r2, r3, r4, r5] t (0, 0)) := by simpa using blk_set h0 1 v1
  have h2 : (World.setCell (World.setCell (World.setCell w ⟨b, 0, none⟩ v0) ⟨b, 1, none⟩ v1) ⟨b, 2, none⟩ v2).heap[b]? = some (.cells #[v0, v1, v2, r3, r4, r5] t (0, 0)) := by simpa using blk_set h1 2 v2
  have h3 : (World.setCell (World.setCell (World.setCell (World.setCell w ⟨b, 0, none⟩ v0) ⟨b, 1, none⟩ v1) ⟨b, 2, none⟩ v2) ⟨b, 3, none⟩ v3).heap[b]? = some (.cells #[v0, v1, v2, v3, r4, r5] t (0, 0)) := by simpa using blk_set h2 3 v3
  have h4 : (World.setCell (World.setCell (World.setCell (World.setCell (World.setCell w ⟨b, 0, none⟩ v0) ⟨b, 1, none⟩ v1) ⟨b, 2, none⟩ v2) ⟨b, 3, none⟩ v3) ⟨b, 4, none⟩ v4).heap[b]? = some (.cells #[v0, v1, v2, v3, v4, r5] t (0, 0)) := by simpa using blk_set h3 4 v4
  have h5 : (World.setCell (World.setCell (World.setCell (World.setCell (World.setCell (World.setCell w ⟨b, 0, none⟩ v0) ⟨b, 1, none⟩ v1) ⟨b, 2, none⟩ v2) ⟨b, 3, none⟩ v3) ⟨b, 4, none⟩ v4) ⟨b, 5, none⟩ v5).heap[b]? = some (.cells #[v0, v1, v2, v3, v4, v5] t (0, 0)) := by simpa using blk_set h4 5 v5
  exact h5
theorem keep_6 (w : World) (b : Nat) (v0 v1 v2 v3 v4 v5 : Value) : Kept w (World.setCell (World.setCell (World.setCell (World.setCell (World.setCell (World.setCell w ⟨b, 0, none⟩ v0) ⟨b, 1, none⟩ v1) ⟨b, 2, none⟩ v2) ⟨b, 3, none⟩ v3) ⟨b, 4, none⟩ v4) ⟨b, 5, none⟩ v5) (fun k => k = b) := (((((((Kept.refl w (fun k => k = b)).set (a := ⟨b, 0, none⟩) rfl v0).set (a := ⟨b, 1, none⟩) rfl v1).set (a := ⟨b, 2, none⟩) rfl v2).set (a := ⟨b, 3, none⟩) rfl v3).set (a := ⟨b, 4, none⟩) rfl v4).set (a := ⟨b, 5, none⟩) rfl v5)
theorem box_8 {w : World} {b t : Nat} {r0 r1 r2 r3 r4 r5 r6 r7 : Value} (h : w.heap[b]? = some (.cells #[r0, r1, r2, r3, r4, r5, r6, r7] t (0, 0))) (v0 v1 v2 v3 v4 v5 v6 v7 : Value) :
    (World.setCell (World.setCell (World.setCell (World.setCell (World.setCell (World.setCell (World.setCell (World.setCell w ⟨b, 0, none⟩ v0) ⟨b, 1, none⟩ v1) ⟨b, 2, none⟩ v2) ⟨b, 3, none⟩ v3) ⟨b, 4, none⟩ v4) ⟨b, 5, none⟩ v5) ⟨b, 6, none⟩ v6) ⟨b, 7, none⟩ v7).heap[b]? = some (.cells #[v0, v1, v2, v3, v4, v5, v6, v7] t (0, 0)) := by
  have h0 : (World.setCell w ⟨b, 0, none⟩ v0).heap[b]? = some (.cells #[v0, r1, r2, r3, r4, r5, r6, r7] t (0, 0)) := by simpa using blk_set h 0 v0
  have h1 : (World.setCell (World.setCell w ⟨b, 0, none⟩ v0) ⟨b, 1, none⟩ v1).heap[b]? = some (.cells #[v0, v1, r2, r3, r4, r5, r6, r7] t (0, 0)) := by simpa using blk_set h0 1 v1
  have h2 : (World.setCell (World.setCell (World.setCell w ⟨b, 0, none⟩ v0) ⟨b, 1, none⟩ v1) ⟨b, 2, none⟩ v2).heap[b]? = some (.cells #[v0, v1, v2, r3, r4, r5, r6, r7] t (0, 0)) := by simpa using blk_set h1 2 v2
  have h3 : (World.setCell (World.setCell (World.setCell (World.setCell w ⟨b, 0, none⟩ v0) ⟨b, 1, none⟩ v1) ⟨b, 2, none⟩ v2) ⟨b, 3, none⟩ v3).heap[b]? = some (.cells #[v0, v1, v2, v3, r4, r5, r6, r7] t (0, 0)) := by simpa using blk_set h2 3 v3
  have h4 : (World.setCell (World.setCell (World.setCell (World.setCell (World.setCell w ⟨b, 0, none⟩ v0) ⟨b, 1, none⟩ v1) ⟨b, 2, none⟩ v2) ⟨b, 3, none⟩ v3) ⟨b, 4, none⟩ v4).heap[b]? = some (.cells #[v0, v1, v2, v3, v4, r5, r6, r7] t (0, 0)) := by simpa using blk_set h3 4 v4
  have h5 : (World.setCell (World.setCell (World.setCell (World.setCell (World.setCell (World.setCell w ⟨b, 0, none⟩ v0) ⟨b, 1, none⟩ v1) ⟨b, 2, none⟩ v2) ⟨b, 3, none⟩ v3) ⟨b, 4, none⟩ v4) ⟨b, 5, none⟩ v5).heap[b]? = some (.cells #[v0, v1, v2, v3, v4, v5, r6, r7] t (0, 0)) := by simpa using blk_set h4 5 v5
  have h6 : (World.setCell (World.setCell (World.setCell (World.setCell (World.setCell (World.setCell (World.setCell w ⟨b, 0, none⟩ v0) ⟨b, 1, none⟩ v1) ⟨b, 2, none⟩ v2) ⟨b, 3, none⟩ v3) ⟨b, 4, none⟩ v4) ⟨b, 5, none⟩ v5) ⟨b, 6, none⟩ v6).heap[b]? = some (.cells #[v0, v1, v2, v3, v4, v5, v6, r7] t (0, 0)) := by simpa using blk_set h5 6 v6
  have h7 : (World.setCell (World.setCell (World.setCell (World.setCell (World.setCell (World.setCell (World.setCell (World.setCell w ⟨b, 0, none⟩ v0) ⟨b, 1, none⟩ v1) ⟨b, 2, none⟩ v2) ⟨b, 3, none⟩ v3) ⟨b, 4, none⟩ v4) ⟨b, 5, none⟩ v5) ⟨b, 6, none⟩ v6) ⟨b, 7, none⟩ v7).heap[b]? = some (.cells #[v0, v1, v2, v3, v4, v5, v6, v7] t (0, 0)) := by simpa using blk_set h6 7 v7
  exact h7
theorem keep_8 (w : World) (b : Nat) (v0 v1 v2 v3 v4 v5 v6 v7 : Value) : Kept w (World.setCell (World.setCell (World.setCell (World.setCell (World.setCell (World.setCell (World.setCell (World.setCell w ⟨b, 0, none⟩ v0) ⟨b, 1, none⟩ v1) ⟨b, 2, none⟩ v2) ⟨b, 3, none⟩ v3) ⟨b, 4, none⟩ v4) ⟨b, 5, none⟩ v5) ⟨b, 6, none⟩ v6) ⟨b, 7, none⟩ v7) (fun k => k = b) := (((((((((Kept.refl w (fun k => k = b)).set (a := ⟨b, 0, none⟩) rfl v0).set (a := ⟨b, 1, none⟩) rfl v1).set (a := ⟨b, 2, none⟩) rfl v2).set (a := ⟨b, 3, none⟩) rfl v3).set (a := ⟨b, 4, none⟩) rfl v4).set (a := ⟨b, 5, none⟩) rfl v5).set (a := ⟨b, 6, none⟩) rfl v6).set (a := ⟨b, 7, none⟩) rfl v7)
theorem box_12 {w : World} {b t : Nat} {r0 r1 r2 r3 r4 r5 r6 r7 r8 r9 r10 r11 : Value} (h : w.heap[b]? = some (.cells #[r0, r1, r2, r3, r4, r5, r6, r7, r8, r9, r10, r11] t (0, 0))) (v0 v1 v2 v3 v4 v5 v6 v7 v8 v9 v10 v11 : Value) :
    (World.setCell (World.setCell (World.setCell (World.setCell (World.setCell (World.setCell (World.setCell (World.setCell (World.setCell (World.setCell (World.setCell (World.setCell w ⟨b, 0, none⟩ v0) ⟨b, 1, none⟩ v1) ⟨b, 2, none⟩ v2) ⟨b, 3, none⟩ v3) ⟨b, 4, none⟩ v4) ⟨b, 5, none⟩ v5) ⟨b, 6, none⟩ v6) ⟨b, 7, none⟩ v7) ⟨b, 8, none⟩ v8) ⟨b, 9, none⟩ v9) ⟨b, 10, none⟩ v10) ⟨b, 11, none⟩ v11).heap[b]? = some (.cells #[v0, v1, v2, v3, v4, v5, v6, v7, v8, v9, v10, v11] t (0, 0)) := by
  have h0 : (World.setCell w ⟨b, 0, none⟩ v0).heap[b]? = some (.cells #[v0, r1, r2, r3, r4, r5, r6, r7, r8, r9, r10, r11] t (0, 0)) := by simpa using blk_set h 0 v0
  have h1 : (World.setCell (World.setCell w ⟨b, 0, none⟩ v0) ⟨b, 1, none⟩ v1).heap[b]? = some (.cells #[v0, v1, r2, r3, r4, r5, r6, r7, r8, r9, r10, r11] t (0, 0)) := by simpa using blk_set h0 1 v1
  have h2 : (World.setCell (World.setCell (World.setCell w ⟨b, 0, none⟩ v0) ⟨b, 1, none⟩ v1) ⟨b, 2, none⟩ v2).heap[b]? = some (.cells #[v0, v1, v2, r3, r4, r5, r6, r7, r8, r9, r10, r11] t (0, 0)) := by simpa using blk_set h1 2 v2
  have h3 : (World.setCell (World.setCell (World.setCell (World.setCell w ⟨b, 0, none⟩ v0) ⟨b, 1, none⟩ v1) ⟨b, 2, none⟩ v2) ⟨b, 3, none⟩ v3).heap[b]? = some (.cells #[v0, v1, v2, v3, r4, r5, r6, r7, r8, r9, r10, r11] t (0, 0)) := by simpa using blk_set h2 3 v3
  have h4 : (World.setCell (World.setCell (World.setCell (World.setCell (World.setCell w ⟨b, 0, none⟩ v0) ⟨b, 1, none⟩ v1) ⟨b, 2, none⟩ v2) ⟨b, 3, none⟩ v3) ⟨b, 4, none⟩ v4).heap[b]? = some (.cells #[v0, v1, v2, v3, v4, r5, r6, r7, r8, r9, r10, r11] t (0, 0)) := by simpa using blk_set h3 4 v4
  have h5 : (World.setCell (World.setCell (World.setCell (World.setCell (World.setCell (World.setCell w ⟨b, 0, none⟩ v0) ⟨b, 1, none⟩ v1) ⟨b, 2, none⟩ v2) ⟨b, 3, none⟩ v3) ⟨b, 4, none⟩ v4) ⟨b, 5, none⟩ v5).heap[b]? = some (.cells #[v0, v1, v2, v3, v4, v5, r6, r7, r8, r9, r10, r11] t (0, 0)) := by simpa using blk_set h4 5 v5
  have h6 : (World.setCell (World.setCell (World.setCell (World.setCell (World.setCell (World.setCell (World.setCell w ⟨b, 0, none⟩ v0) ⟨b, 1, none⟩ v1) ⟨b, 2, none⟩ v2) ⟨b, 3, none⟩ v3) ⟨b, 4, none⟩ v4) ⟨b, 5, none⟩ v5) ⟨b, 6, none⟩ v6).heap[b]? = some (.cells #[v0, v1, v2, v3, v4, v5, v6, r7, r8, r9, r10, r11] t (0, 0)) := by simpa using blk_set h5 6 v6
  have h7 : (World.setCell (World.setCell (World.setCell (World.setCell (World.setCell (World.setCell (World.setCell (World.setCell w ⟨b, 0, none⟩ v0) ⟨b, 1, none⟩ v1) ⟨b, 2, none⟩ v2) ⟨b, 3, none⟩ v3) ⟨b, 4, none⟩ v4) ⟨b, 5, none⟩ v5) ⟨b, 6, none⟩ v6) ⟨b, 7, none⟩ v7).heap[b]? = some (.cells #[v0, v1, v2, v3, v4, v5, v6, v7, r8, r9, r10, r11] t (0, 0)) := by simpa using blk_set h6 7 v7
  have h8 : (World.setCell (World.setCell (World.setCell (World.setCell (World.setCell (World.setCell (World.setCell (World.setCell (World.setCell w ⟨b, 0, none⟩ v0) ⟨b, 1, none⟩ v1) ⟨b, 2, none⟩ v2) ⟨b, 3, none⟩ v3) ⟨b, 4, none⟩ v4) ⟨b, 5, none⟩ v5) ⟨b, 6, none⟩ v6) ⟨b, 7, none⟩ v7) ⟨b, 8, none⟩ v8).heap[b]? = some (.cells #[v0, v1, v2, v3, v4, v5, v6, v7, v8, r9, r10, r11] t (0, 0)) := by simpa using blk_set h7 8 v8
  have h9 : (World.setCell (World.setCell (World.setCell (World.setCell (World.setCell (World.setCell (World.setCell (World.setCell (World.setCell (World.setCell w ⟨b, 0, none⟩ v0) ⟨b, 1, none⟩ v1) ⟨b, 2, none⟩ v2) ⟨b, 3, none⟩ v3) ⟨b, 4, none⟩ v4) ⟨b, 5, none⟩ v5) ⟨b, 6, none⟩ v6) ⟨b, 7, none⟩ v7) ⟨b, 8, none⟩ v8) ⟨b, 9, none⟩ v9).heap[b]? = some (.cells #[v0, v1, v2, v3, v4, v5, v6, v7, v8, v9, r10, r11] t (0, 0)) := by simpa using blk_set h8 9 v9
  have h10 : (World.setCell (World.setCell (World.setCell (World.setCell (World.setCell (World.setCell (World.setCell (World.setCell (World.setCell (World.setCell (World.setCell w ⟨b, 0, none⟩ v0) ⟨b, 1, none⟩ v1) ⟨b, 2, none⟩ v2) ⟨b, 3, none⟩ v3) ⟨b, 4, none⟩ v4) ⟨b, 5, none⟩ v5) ⟨b, 6, none⟩ v6) ⟨b, 7, none⟩ v7) ⟨b, 8, none⟩ v8) ⟨b, 9, none⟩ v9) ⟨b, 10, none⟩ v10).heap[b]? = some (.cells #[v0, v1, v2, v3, v4, v5, v6, v7, v8, v9, v10, r11] t (0, 0)) := by simpa using blk_set h9 10 v10
  have h11 : (World.setCell (World.setCell (World.setCell (World.setCell (World.setCell (World.setCell (World.setCell (World.setCell (World.setCell (World.setCell (World.setCell (World.setCell w ⟨b, 0, none⟩ v0) ⟨b, 1, none⟩ v1) ⟨b, 2, none⟩ v2) ⟨b, 3, none⟩ v3) ⟨b, 4, none⟩ v4) ⟨b, 5, none⟩ v5) ⟨b, 6, none⟩ v6) ⟨b, 7, none⟩ v7) ⟨b, 8, none⟩ v8) ⟨b, 9, none⟩ v9) ⟨b, 10, none⟩ v10) ⟨b, 11, none⟩ v11).heap[b]? = some (.cells #[v0, v1, v2, v3, v4, v5, v6, v7, v8, v9, v10, v11] t (0, 0)) := by simpa using blk_set h10 11 v11
  exact h11
theorem keep_12 (w : World) (b : Nat) (v0 v1 v2 v3 v4 v5 v6 v7 v8 v9 v10 v11 : Value) : Kept w (World.setCell (World.setCell (World.setCell (World.setCell (World.setCell (World.setCell (World.setCell (World.setCell (World.setCell (World.setCell (World.setCell (World.setCell w ⟨b, 0, none⟩ v0) ⟨b, 1, none⟩ v1) ⟨b, 2, none⟩ v2) ⟨b, 3, none⟩ v3) ⟨b, 4, none⟩ v4) ⟨b, 5, none⟩ v5) ⟨b, 6, none⟩ v6) ⟨b, 7, none⟩ v7) ⟨b, 8, none⟩ v8) ⟨b, 9, none⟩ v9) ⟨b, 10, none⟩ v10) ⟨b, 11, none⟩ v11) (fun k => k = b) := (((((((((((((Kept.refl w (fun k => k = b)).set (a := ⟨b, 0, none⟩) rfl v0).set (a := ⟨b, 1, none⟩) rfl v1).set (a := ⟨b, 2, none⟩) rfl v2).set (a := ⟨b, 3, none⟩) rfl v3).set (a := ⟨b, 4, none⟩) rfl v4).set (a := ⟨b, 5, none⟩) rfl v5).set (a := ⟨b, 6, none⟩) rfl v6).set (a := ⟨b, 7, none⟩) rfl v7).set (a := ⟨b, 8, none⟩) rfl v8).set (a := ⟨b, 9, none⟩) rfl v9).set (a := ⟨b, 10, none⟩) rfl v10).set (a := ⟨b, 11, none⟩) rfl v11)

end Go.Proofs.YtfallpinmhbemaaGreatDoor

namespace Go.Proofs.YtfallpinmhbemaaGreatDoor
open Go.RowKit

/-- The party that is read; it need not be good. -/
noncomputable def readP (s : ByteArray) : Party :=
  ⟨numOf (cutA 43 (cutA 64 s)), if cutF 43 (cutA 64 s) then numOf (cutA 47 (cutB 43 (cutA 64 s))) else 0, if cutF 43 (cutA 64 s) then numOf (cutB 47 (cutB 43 (cutA 64 s))) else 0,
    if cutF 64 s then numOf (cutA 120 (cutB 64 s)) else 0, if cutF 64 s then !(cutF 120 (cutB 64 s)) else false, if cutF 64 s && cutF 120 (cutB 64 s) then numOf (cutB 120 (cutB 64 s)) else 0⟩
/-- The party at hand in its box, beside the box of results. -/
structure PBx (w wx : World) (rb pb : Nat) (p : Party) : Prop where
  r : wx.heap[rb]? = some (.cells #[.int .i64 0, .int .i64 0, .int .i64 0, .int .i64 0, .bool false, .int .i64 0] 25 (0, 0))
  b : wx.heap[pb]? = some (.cells #[.int .i64 p.pe, .int .i64 p.len, .int .i64 p.hei, .int .i64 p.cl, .bool p.all, .int .i64 p.be] 25 (0, 0))
  ne : rb ≠ pb
  lo : w.heap.size ≤ rb ∧ w.heap.size ≤ pb
  bel : Below w.heap.size w wx
section
variable {w wx wy : World} {rb pb : Nat} {p : Party}
theorem PBx.below (h : PBx w wx rb pb p) (hb : Below wx.heap.size wx wy) : PBx w wy rb pb p := ⟨blk_below h.r hb, blk_below h.b hb, h.ne, h.lo, after h.bel hb⟩
theorem PBx.len (h : PBx w wx rb pb p) (v : Int) : PBx w (wx.setCell ⟨pb, 1, none⟩ (.int .i64 v)) rb pb { p with len := v } :=
  ⟨blk_set_other h.r 1 _ h.ne, (by simpa using blk_set h.b 1 (.int .i64 v)), h.ne, h.lo, h.bel.setCell h.lo.2 _⟩
theorem PBx.hei (h : PBx w wx rb pb p) (v : Int) : PBx w (wx.setCell ⟨pb, 2, none⟩ (.int .i64 v)) rb pb { p with hei := v } :=
  ⟨blk_set_other h.r 2 _ h.ne, (by simpa using blk_set h.b 2 (.int .i64 v)), h.ne, h.lo, h.bel.setCell h.lo.2 _⟩
theorem PBx.cl (h : PBx w wx rb pb p) (v : Int) : PBx w (wx.setCell ⟨pb, 3, none⟩ (.int .i64 v)) rb pb { p with cl := v } :=
  ⟨blk_set_other h.r 3 _ h.ne, (by simpa using blk_set h.b 3 (.int .i64 v)), h.ne, h.lo, h.bel.setCell h.lo.2 _⟩
theorem PBx.all (h : PBx w wx rb pb p) (v : Bool) : PBx w (wx.setCell ⟨pb, 4, none⟩ (.bool v)) rb pb { p with all := v } :=
  ⟨blk_set_other h.r 4 _ h.ne, (by simpa using blk_set h.b 4 (.bool v)), h.ne, h.lo, h.bel.setCell h.lo.2 _⟩
theorem PBx.be (h : PBx w wx rb pb p) (v : Int) : PBx w (wx.setCell ⟨pb, 5, none⟩ (.int .i64 v)) rb pb { p with be := v } :=
  ⟨blk_set_other h.r 5 _ h.ne, (by simpa using blk_set h.b 5 (.int .i64 v)), h.ne, h.lo, h.bel.setCell h.lo.2 _⟩
end
theorem partyDone {w wx : World} {rb pb : Nat} {p : Party} (h : PBx w wx rb pb p) (v0 v1 v2 v3 v4 v5 : Value) : Below w.heap.size w (World.setCell (World.setCell (World.setCell (World.setCell (World.setCell (World.setCell wx ⟨rb, 0, none⟩ v0) ⟨rb, 1, none⟩ v1) ⟨rb, 2, none⟩ v2) ⟨rb, 3, none⟩ v3) ⟨rb, 4, none⟩ v4) ⟨rb, 5, none⟩ v5) :=
  Kept.below h.bel h.bel.size (keep_6 wx rb v0 v1 v2 v3 v4 v5) (fun k e => by have e : k = rb := e; rw [e]; exact h.lo.1)

set_option maxHeartbeats 3200000 in
set_option maxRecDepth 100000 in
theorem partyIn_any (s : ByteArray) (w : World) (hs : s.size ≤ 1000000000) (hP : PowAt w) :
    Calls Tryz.prog 56 #[.string s] w fun e w' => e = .returned (.agg #[.int .i64 (readP s).pe, .int .i64 (readP s).len, .int .i64 (readP s).hei, .int .i64 (readP s).cl, .bool (readP s).all, .int .i64 (readP s).be]) ∧ Below w.heap.size w w' := by
  have HP : Hid (PowAt w) := hP
  clear hP
  have z1 := cut_size 64 s
  have z2 := cut_size 43 (cutA 64 s)
  have c1 := fun W => cut_any s 64 W (by omega)
  have c2 := fun W => cut_any (cutA 64 s) 43 W (by omega)
  have c3 := fun W hW => pairIn_any (cutB 43 (cutA 64 s)) W (by omega) hW
  have c4 := fun W => cut_any (cutB 64 s) 120 W (by omega)
  have n1 := fun W hW => numberIn_any (cutA 43 (cutA 64 s)) W hW
  have n2 := fun W hW => numberIn_any (cutA 120 (cutB 64 s)) W hW
  have n3 := fun W hW => numberIn_any (cutB 120 (cutB 64 s)) W hW
  have hR : readP s = ⟨numOf (cutA 43 (cutA 64 s)), if cutF 43 (cutA 64 s) then numOf (cutA 47 (cutB 43 (cutA 64 s))) else 0, if cutF 43 (cutA 64 s) then numOf (cutB 47 (cutB 43 (cutA 64 s))) else 0,
    if cutF 64 s then numOf (cutA 120 (cutB 64 s)) else 0, if cutF 64 s then !(cutF 120 (cutB 64 s)) else false, if cutF 64 s && cutF 120 (cutB 64 s) then numOf (cutB 120 (cutB 64 s)) else 0⟩ := rfl
  generalize readP s = R at hR ⊢
  generalize numOf (cutA 47 (cutB 43 (cutA 64 s))) = m1 at c3 hR
  generalize numOf (cutB 47 (cutB 43 (cutA 64 s))) = m2 at c3 hR
  generalize numOf (cutA 43 (cutA 64 s)) = m0 at n1 hR
  generalize numOf (cutA 120 (cutB 64 s)) = m3 at n2 hR
  generalize numOf (cutB 120 (cutB 64 s)) = m4 at n3 hR
  generalize cutF 120 (cutB 64 s) = f3 at c4 hR
  generalize cutF 43 (cutA 64 s) = f2 at c2 hR
  generalize cutF 64 s = f1 at c1 hR
  generalize cutA 120 (cutB 64 s) = a3 at c4 n2
  generalize cutB 120 (cutB 64 s) = b3 at c4 n3
  generalize cutA 43 (cutA 64 s) = a2 at c2 n1
  generalize cutB 43 (cutA 64 s) = b2 at c2 c3 z2
  generalize cutB 64 s = b1 at c1 c4 z1
  generalize cutA 64 s = a1 at c1 c2 z1 z2
  have C1 : Hid _ := c1
  have C2 : Hid _ := c2
  have C3 : Hid _ := c3
  have C4 : Hid _ := c4
  have N1 : Hid _ := n1
  have N2 : Hid _ := n2
  have N3 : Hid _ := n3
  have HR : Hid (R = ⟨m0, if f2 then m1 else 0, if f2 then m2 else 0, if f1 then m3 else 0, if f1 then !f3 else false, if f1 && f3 then m4 else 0⟩) := hR
  clear c1 c2 c3 c4 n1 n2 n3 hR z1 z2
  have hr := heap_alloc_new w (.cells #[.int .i64 0, .int .i64 0, .int .i64 0, .int .i64 0, .bool false, .int .i64 0] 25)
  have hb0 : Below w.heap.size w (w.alloc (.cells #[.int .i64 0, .int .i64 0, .int .i64 0, .int .i64 0, .bool false, .int .i64 0] 25)) := push (Below.refl _ _) _
  go_enter Tryz.func56, Tryz.ntmps56
  go_upto_region 1 with fail
  generalize w.alloc (.cells #[.int .i64 0, .int .i64 0, .int .i64 0, .int .i64 0, .bool false, .int .i64 0] 25) = W at hr hb0 ⊢
  go_wp2_with fail
  refine (C1.out _).mono ?_
  rintro e w1 ⟨rfl, hb⟩
  have hr1 := blk_below hr hb
  have hb1 := after hb0 hb
  clear hr hb0 hb
  go_wp2_with fail
  refine (C2.out _).mono ?_
  rintro e w2 ⟨rfl, hb⟩
  have hr2 := blk_below hr1 hb
  have hb2 := after hb1 hb
  clear hr1 hb1 hb
  go_wp2_with fail
  refine (N1.out _ (HP.out.below hb2)).mono ?_
  rintro e w3 ⟨rfl, hb⟩
  have hr3 := blk_below hr2 hb
  have hb3 := after hb2 hb
  have hlt := blk_lt hr3
  have HB : Hid (PBx w (w3.alloc (.cells #[.int .i64 m0, .int .i64 0, .int .i64 0, .int .i64 0, .bool false, .int .i64 0] 25)) w.heap.size w3.heap.size ⟨m0, 0, 0, 0, false, 0⟩) :=
    ⟨blk_alloc hr3 _, heap_alloc_new w3 _, by omega, ⟨Nat.le_refl _, by omega⟩, push hb3 _⟩
  clear hr2 hb2 hb hr3 hb3
  go_upto_region 4 with fail
  generalize w3.alloc (.cells #[.int .i64 m0, .int .i64 0, .int .i64 0, .int .i64 0, .bool false, .int .i64 0] 25) = W3 at HB ⊢
  generalize w3.heap.size = pb at HB ⊢
  go_upto_if 28 with fail
  go_cut [] (fun wx => Hid (PBx w wx w.heap.size pb ⟨m0, if f2 then m1 else 0, if f2 then m2 else 0, 0, false, 0⟩))
  case first =>
    cases f2 with
    | false =>
      go_wp2
      go_meet
      exact HB.out
    | true =>
      go_wp2_with fail
      refine (C3.out _ (HP.out.below HB.out.bel)).mono ?_
      rintro e w4 ⟨rfl, hb⟩
      have HB4 : Hid _ := HB.out.below hb
      have b4 := HB4.out.b
      have x1 := blk_cell b4 1 _ rfl
      have x2 := blk_cell b4 2 _ rfl
      have g1 := blk_free b4 1
      have g2 := blk_free b4 2
      have HB5 : Hid _ := (HB4.out.len m1).hei m2
      clear b4 HB
      go_wp2
      go_meet
      exact HB5.out
  case rest =>
  have HC := hcut
  clear hcut HB
  obtain ⟨q, hq⟩ : ∃ q : Party, q = ⟨m0, if f2 then m1 else 0, if f2 then m2 else 0, 0, false, 0⟩ := ⟨_, rfl⟩
  rw [← hq] at HC
  have HQ : Hid (q = ⟨m0, if f2 then m1 else 0, if f2 then m2 else 0, 0, false, 0⟩) := hq
  clear hq
  have HQR : Hid (R = { q with cl := if f1 then m3 else 0, all := if f1 then !f3 else false, be := if f1 && f3 then m4 else 0 }) := by
    show R = _
    rw [HR.out, HQ.out]
  have HQ0 : Hid (q.cl = 0 ∧ q.all = false ∧ q.be = 0) := by rw [HQ.out]; exact ⟨rfl, rfl, rfl⟩
  clear HR HQ
  go_upto_if 36 with fail
  go_cut [] (fun wx => Hid (PBx w wx w.heap.size pb R))
  case first =>
    cases f1 with
    | false =>
      have e : R = q := by
        rw [HQR.out]
        obtain ⟨a, b, c, d, e, f⟩ := q
        have h := HQ0.out
        dsimp only at h
        obtain ⟨rfl, rfl, rfl⟩ := h
        rfl
      have HC2 : Hid (PBx w wc w.heap.size pb R) := by rw [e]; exact HC.out
      clear e HC
      go_wp2
      go_meet
      exact HC2.out
    | true =>
      go_wp2_with fail
      refine (C4.out _).mono ?_
      rintro e w4 ⟨rfl, hb⟩
      have HB4 : Hid _ := HC.out.below hb
      clear HC hb
      go_wp2_with fail
      refine (N2.out _ (HP.out.below HB4.out.bel)).mono ?_
      rintro e w5 ⟨rfl, hb⟩
      have HB5 : Hid (PBx w w5 w.heap.size pb q) := HB4.out.below hb
      clear HB4 hb
      have b5 := HB5.out.b
      have x3 := blk_cell b5 3 _ rfl
      have x4 := blk_cell b5 4 _ rfl
      have g3 := blk_free b5 3
      have g4 := blk_free b5 4
      have HB6 : Hid _ := (HB5.out.cl m3).all (!f3)
      clear b5 HB5
      go_upto_if 49 with fail
      cases f3 with
      | false =>
        have e : R = { q with cl := m3, all := true } := by
          rw [HQR.out]
          obtain ⟨a, b, c, d, e, f⟩ := q
          have h := HQ0.out
          dsimp only at h
          obtain ⟨rfl, rfl, rfl⟩ := h
          rfl
        have HE : Hid (R = { q with cl := m3, all := true }) := e
        clear e
        go_wp2
        go_meet
        rw [HE.out]
        exact HB6.out
      | true =>
        have e : R = { q with cl := m3, all := false, be := m4 } := by
          rw [HQR.out]
          rfl
        have HE : Hid (R = { q with cl := m3, all := false, be := m4 }) := e
        clear e
        generalize World.setCell (World.setCell w5 ⟨pb, 3, none⟩ (.int .i64 m3)) ⟨pb, 4, none⟩ _ = W6 at HB6 ⊢
        go_wp2_with fail
        refine (N3.out _ (HP.out.below HB6.out.bel)).mono ?_
        rintro e w7 ⟨rfl, hb⟩
        have HB7 : Hid _ := HB6.out.below hb
        have b7 := HB7.out.b
        have x5 := blk_cell b7 5 _ rfl
        have g5 := blk_free b7 5
        have HB8 : Hid _ := HB7.out.be m4
        clear b7 HB6 hb
        go_wp2
        go_meet
        rw [HE.out]
        exact HB8.out
  case rest =>
  have HD := hcut
  clear hcut HC HQR HQ0
  have bp := HD.out.b
  have br := HD.out.r
  have p0 := blk_cell bp 0 _ rfl
  have r0 := blk_cell br 0 _ rfl
  have q0 := blk_free br 0
  have p1 := blk_cell bp 1 _ rfl
  have r1 := blk_cell br 1 _ rfl
  have q1 := blk_free br 1
  have p2 := blk_cell bp 2 _ rfl
  have r2 := blk_cell br 2 _ rfl
  have q2 := blk_free br 2
  have p3 := blk_cell bp 3 _ rfl
  have r3 := blk_cell br 3 _ rfl
  have q3 := blk_free br 3
  have p4 := blk_cell bp 4 _ rfl
  have r4 := blk_cell br 4 _ rfl
  have q4 := blk_free br 4
  have p5 := blk_cell bp 5 _ rfl
  have r5 := blk_cell br 5 _ rfl
  have q5 := blk_free br 5
  have rF := box_6 br (.int .i64 R.pe) (.int .i64 R.len) (.int .i64 R.hei) (.int .i64 R.cl) (.bool R.all) (.int .i64 R.be)
  have HF : Hid _ := partyDone HD.out (.int .i64 R.pe) (.int .i64 R.len) (.int .i64 R.hei) (.int .i64 R.cl) (.bool R.all) (.int .i64 R.be)
  clear bp br
  go_wp2
  have z0 := blk_cell rF 0 _ rfl
  have z1 := blk_cell rF 1 _ rfl
  have z2 := blk_cell rF 2 _ rfl
  have z3 := blk_cell rF 3 _ rfl
  have z4 := blk_cell rF 4 _ rfl
  have z5 := blk_cell rF 5 _ rfl
  exact bodyPost_ret (v := .agg #[.int .i64 R.pe, .int .i64 R.len, .int .i64 R.hei, .int .i64 R.cl, .bool R.all, .int .i64 R.be]) (by simp [results, Tryz.results56, go_sem, z0, z1, z2, z3, z4, z5]) rfl ⟨rfl, HF.out⟩

end Go.Proofs.YtfallpinmhbemaaGreatDoor

namespace Go.Proofs.YtfallpinmhbemaaGreatDoor
open Go.RowKit

/-- The numbers that are read. -/
def LegsRead (s : ByteArray) (L : List Int) : Prop := L.length ≤ s.size + 1 ∧ ((s = ⟨#[45]⟩ ∧ L = []) ∨ (s ≠ ⟨#[45]⟩ ∧ ∃ l, Parts 44 s l ∧ L = l.map numOf))

set_option maxHeartbeats 1600000 in
set_option maxRecDepth 100000 in
theorem listIn_any (s : ByteArray) (w : World) (hs : s.size ≤ 1048576) (hP : PowAt w) :
    Calls Tryz.prog 54 #[.string s, .func (.func 55) #[] #[]] w fun e w' => ∃ v L, e = .returned v ∧ w'.ownsRow w.heap.size 3 1 v L.length (cellsI L) ∧ Hid (LegsRead s L) ∧ Below w.heap.size w w' := by
  have HP : Hid (PowAt w) := hP
  clear hP
  obtain ⟨j0, ji, jz0, jz1, jz2⟩ := info_parts Tryz.infoInt
  by_cases h45 : s = ⟨#[45]⟩
  · have e45 : (s.toList == (⟨#[45]⟩ : ByteArray).toList) = true := bytes_eq.2 h45
    have HR : Hid (LegsRead s []) := ⟨by simp, .inl ⟨h45, rfl⟩⟩
    have e1 : s.toList = [45] := by rw [h45]; simp [ByteArray.toList_eq]
    clear h45
    go_enter Tryz.func54, Tryz.ntmps54
    go_wp2
    go_ret
    exact ⟨_, [], rfl, World.ownsRow_nil _ _ _ _, HR, Below.refl _ _⟩
  · have e45 : (s.toList == [45]) = false := by
      rw [beq_eq_false_iff_ne]
      intro e
      exact h45 (toList_inj (by rw [e]; simp [ByteArray.toList_eq]))
    have e1 : ¬ s.toList = [45] := by rwa [beq_eq_false_iff_ne] at e45
    have HNE : Hid (s ≠ ⟨#[45]⟩) := h45
    clear h45
    go_enter Tryz.func54, Tryz.ntmps54
    go_wp2_with fail
    refine (partsIn_any s 44 _ (by decide) hs).mono ?_
    rintro e w2 ⟨v, l, rfl, ho, hp, hb2⟩
    obtain ⟨pa, pc, rfl, hpc, hpm, hpn⟩ := own_form ho
    have HO : Hid (OwnT w2 w.heap.size (.slice pa l.length pc) l) := ho
    have HPT : Hid (Parts 44 s l ∧ l.length ≤ s.size + 1) := hp.out
    have hll : l.length ≤ 1048577 := by have := hp.out.2; omega
    clear ho hp
    go_wp2
    go_loopw [5, 7, 13] (fun v _ i wr => ∃ k : Nat, k ≤ l.length ∧ i = .int .i64 k ∧ Hid (wr.ownsRow w.heap.size 3 1 v k (cellsI ((l.take k).map numOf))) ∧ Hid (OwnT wr w.heap.size (.slice pa l.length pc) l) ∧ Below w.heap.size w wr)
      (fun _ _ i _ => l.length - (intOf i).toNat)
    case atStart => exact ⟨0, Nat.zero_le _, rfl, World.ownsRow_nil _ _ _ _, HO.out, hb2⟩
    case round =>
      clear HO
      obtain ⟨k, hk, rfl, HN, HO, hbel⟩ := hrel
      by_cases hlt : k < l.length
      · obtain ⟨g, hpa, _, hg⟩ := own_addr HO.out (by omega)
        subst hpa
        have hx : l[k]? = some (l[k]'hlt) := List.getElem?_eq_getElem hlt
        have hc : wr.cell? ⟨g, k, none⟩ = some (.string (l[k]'hlt)) := by rw [World.ownsRow.cellAt HO.out k (by omega), List.getElem?_map, hx]; rfl
        have hL : (l.take (k + 1)).map numOf = (l.take k).map numOf ++ [numOf (l[k]'hlt)] := by rw [List.take_add_one, hx, List.map_append]; rfl
        have HL : Hid ((l.take (k + 1)).map numOf = (l.take k).map numOf ++ [numOf (l[k]'hlt)]) := hL
        have hkl : ((l.take k).map numOf).length = k := by rw [List.length_map, List.length_take]; omega
        generalize l[k]'hlt = x at hc HL
        obtain ⟨va, vc, rfl, _⟩ := own_form HN.out
        clear hx hL
        go_wp2_with fail
        refine (numberIn_any x _ (HP.out.below hbel)).mono ?_
        rintro e w3 ⟨rfl, hb3⟩
        have HN3 : Hid (World.ownsRow (w3.alloc (.cells #[.int .i64 (numOf x)] 3)) w.heap.size 3 1 (.slice va k vc) k (cellsI ((l.take k).map numOf))) := own_below (push (Below.refl _ _) _) (own_below hb3 HN.out)
        have HO3 : Hid (OwnT (w3.alloc (.cells #[.int .i64 (numOf x)] 3)) w.heap.size (.slice (some ⟨g, 0, none⟩) l.length pc) l) := own_below (push (Below.refl _ _) _) (own_below hb3 HO.out)
        have hb4 : Below w.heap.size w (w3.alloc (.cells #[.int .i64 (numOf x)] 3)) := push (after hbel hb3) _
        have hsz := hb4.size
        clear HN HO hbel hb3 hc
        go_wp2_with (first | (at_builtin; refine wpList_append_any _ (by rfl) (.tmp 17) (.tmp 21) 23 (by rfl) w.heap.size 3 j0 (.int .i64 0) 1 8 Tryz.underlying23 ji jz0 jz1 jz2 rfl (by decide) _ k (cellsI ((l.take k).map numOf)) (by rfl) HN3.out (some ⟨w3.heap.size, 0, none⟩) 1 1 [.int .i64 (numOf x)] (by rfl) (fun h => by cases h) (by rfl) (fun ad h => by cases h; exact World.news_of_block (heap_alloc_new w3 _)) (by intro u hu; simp only [List.mem_cons, List.not_mem_nil, or_false] at hu; subst hu; rfl) (by unfold maxLen; omega) (by omega) hsz ?_; intro v9 w9 ho9 hg9))
        have HN9 : Hid (World.ownsRow w9 w.heap.size 3 1 v9 (k + 1) (cellsI ((l.take (k + 1)).map numOf))) := by
          rw [HL.out, cellsI_snoc]
          exact ho9
        have HO9 : Hid (OwnT w9 w.heap.size (.slice (some ⟨g, 0, none⟩) l.length pc) l) := (kept_row hg9).own HO3.out (fun g1 h1 e1 => own_apart HO3.out HN3.out (by decide) g1 h1 e1)
        have hb9 := hb4.grown hg9 hsz (fun j hj => (World.ownsRow.lt HN3.out j hj).1)
        clear HN3 HO3 hb4 ho9 hg9 hsz
        go_roundw
        case rel => exact ⟨k + 1, by omega, by go_num, HN9.out, HO9.out, hb9⟩
        case measure => simp [intOf]; omega
      · obtain rfl : k = l.length := by omega
        have HF : Hid (LegsRead s (l.map numOf)) := ⟨by rw [List.length_map]; exact HPT.out.2, .inr ⟨HNE.out, l, HPT.out.1, rfl⟩⟩
        have hN := HN.out
        rw [List.take_of_length_le (Nat.le_refl _)] at hN
        have hl2 : (l.map numOf).length = l.length := by simp
        have HN2 : Hid (wr.ownsRow w.heap.size 3 1 u5 (l.map numOf).length (cellsI (l.map numOf))) := by rw [hl2]; exact hN
        clear HN hN hl2
        go_wp2
        go_ret
        exact ⟨_, _, rfl, HN2.out, HF, hbel⟩

end Go.Proofs.YtfallpinmhbemaaGreatDoor
