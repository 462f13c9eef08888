/-
  OWN TEXT: SpecRa, SpecRb, MarkInts.
-/
import Derived.Test.YtfbooamjddnagaaDoorXadOp05
import Derived.Test.YtfbooamjddnagaaDoorXadOp06
import Derived.Test.YtfbooamjddnagaaDoorB23
import Derived.Test.YtfbooamjddnagaaDoorB03
import Derived.Test.YtfbooamjddnagaaDoorB00
namespace Go.Proofs.YtfbooamjddnagaaDoor
open Go.RowKit

/-- The words that are left, as a slice. -/
def SWd (w : World) (v : Value) (l : List ByteArray) : Prop :=
  ∃ (ao : Option Addr) (c : Nat), v = .slice ao l.length c ∧ l.length ≤ c ∧ c ≤ maxLen ∧
    ∀ j x, l[j]? = some x → ∃ g off cur, ao = some ⟨g, off, none⟩ ∧ w.cell? ⟨g, off + j, none⟩ = some (.string x) ∧ w.heap[g]? = some (.cells cur 9 (0, 0))
theorem SWd.kept {w w' : World} {v : Value} {l : List ByteArray} {S : Nat → Prop} (h : SWd w v l) (hk : Kept w w' S) (hS : ∀ g cur, w.heap[g]? = some (.cells cur 9 (0, 0)) → ¬ S g) : SWd w' v l := by
  obtain ⟨ao, c, h1, h2, h3, h4⟩ := h
  refine ⟨ao, c, h1, h2, h3, fun j x hx => ?_⟩
  obtain ⟨g, off, cur, e, k1, k2⟩ := h4 j x hx
  refine ⟨g, off, cur, e, ?_, hk.blk k2 (hS g cur k2)⟩
  rw [← k1]
  exact World.cell?_of_block ((hk.blk k2 (hS g cur k2)).trans k2.symm)
theorem SWd.below {w w' : World} {v : Value} {l : List ByteArray} (h : SWd w v l) (hb : Below w.heap.size w w') : SWd w' v l := h.kept (Kept.of_below (S := fun _ => False) hb) (fun _ _ _ h => h)
theorem SWd.of_own {w : World} {base : Nat} {v : Value} {l : List ByteArray} (ho : OwnT w base v l) : SWd w v l := by
  obtain ⟨ao, c, rfl, hc, hm, hn⟩ := own_form ho
  refine ⟨ao, c, rfl, hc, hm, fun j x hx => ?_⟩
  have hj : j < l.length := by
    rcases Nat.lt_or_ge j l.length with h | h
    · exact h
    · rw [List.getElem?_eq_none h] at hx; cases hx
  obtain ⟨g, rfl, _, hg⟩ := own_addr ho (by omega)
  have hcell : w.cell? ⟨g, j, none⟩ = some (.string x) := by rw [World.ownsRow.cellAt ho j (by omega), List.getElem?_map, hx]; rfl
  rcases ho.2 with ⟨h0, _⟩ | ⟨g', cap', cur, hv, _, hg', _⟩
  · cases h0
  · simp only [Value.slice.injEq, Option.some.injEq, Addr.mk.injEq] at hv
    obtain ⟨⟨rfl, _, _⟩, _, rfl⟩ := hv
    exact ⟨g, 0, cur, rfl, by rw [Nat.zero_add]; exact hcell, hg'⟩
theorem SWd.head {w : World} {v : Value} {x : ByteArray} {r : List ByteArray} (h : SWd w v (x :: r)) : ∃ g o c, v = .slice (some ⟨g, o, none⟩) (r.length + 1) c ∧ r.length + 1 ≤ c ∧ w.cell? ⟨g, o, none⟩ = some (.string x) := by
  obtain ⟨ao, c, h1, h2, h3, h4⟩ := h
  obtain ⟨g, off, cur, rfl, k1, k2⟩ := h4 0 x rfl
  exact ⟨g, off, c, h1, h2, k1⟩
theorem SWd.take {w : World} {g o c : Nat} {x : ByteArray} {r : List ByteArray} (h : SWd w (.slice (some ⟨g, o, none⟩) (r.length + 1) c) (x :: r)) (ad : Option Addr) (c' : Nat) (hc' : c' = c - 1) (had : 0 < r.length → ad = some ⟨g, o + 1, none⟩) : SWd w (.slice ad r.length c') r := by
  obtain ⟨ao, c2, h1, h2, h3, h4⟩ := h
  simp only [Value.slice.injEq] at h1
  obtain ⟨rfl, _, rfl⟩ := h1
  rw [List.length_cons] at h2
  refine ⟨ad, c', rfl, by omega, by omega, fun j y hy => ?_⟩
  have hj : j < r.length := by
    rcases Nat.lt_or_ge j r.length with h | h
    · exact h
    · rw [List.getElem?_eq_none h] at hy; cases hy
  obtain ⟨g', off', cur', e, q1, q2⟩ := h4 (j + 1) y (by simpa using hy)
  simp only [Option.some.injEq, Addr.mk.injEq, and_true] at e
  obtain ⟨rfl, rfl⟩ := e
  refine ⟨g, o + 1, cur', had (by omega), ?_, q2⟩
  rw [show o + 1 + j = o + (j + 1) by omega]
  exact q1
/-- The operation at hand in its box, beside the box of results and the words. -/
structure SOp (w wx : World) (rb ob : Nat) (x : OpR) (u : Value) (R : List ByteArray) : Prop where
  r : wx.heap[rb]? = some (.cells #[.int .i64 0, .string ⟨#[]⟩, .int .i64 0, .slice none 0 0, .int .i64 0, .int .i64 0, .int .i64 0, .int .i64 0, .bool false, .int .i64 0, .int .i64 0, .int .i64 0] 32 (0, 0))
  o : wx.heap[ob]? = some (.cells x.cs 32 (0, 0))
  ne : rb ≠ ob
  lo : w.heap.size ≤ rb ∧ w.heap.size ≤ ob
  leg : wx.ownsRow w.heap.size 3 1 x.v x.L.length (cellsI x.L)
  ws : SWd wx u R
  bel : Below w.heap.size w wx
section
variable {w wx wy : World} {rb ob : Nat} {x : OpR} {u u' : Value} {R R' : List ByteArray}
theorem SOp.below (h : SOp w wx rb ob x u R) (hb : Below wx.heap.size wx wy) : SOp w wy rb ob x u R :=
  ⟨blk_below h.r hb, blk_below h.o hb, h.ne, h.lo, own_below hb h.leg, h.ws.below hb, after h.bel hb⟩
theorem SOp.words (h : SOp w wx rb ob x u R) (hw : SWd wx u' R') : SOp w wx rb ob x u' R' := ⟨h.r, h.o, h.ne, h.lo, h.leg, hw, h.bel⟩
theorem SOp.store (h : SOp w wx rb ob x u R) (i : Nat) (v : Value) (y : OpR) (hy : y.cs = x.cs.setIfInBounds i v) (hl : wx.ownsRow w.heap.size 3 1 y.v y.L.length (cellsI y.L)) : SOp w (wx.setCell ⟨ob, i, none⟩ v) rb ob y u R := by
  have hk : Kept wx (wx.setCell ⟨ob, i, none⟩ v) (fun g => g = ob) := (Kept.refl wx (fun g => g = ob)).set (a := ⟨ob, i, none⟩) rfl v
  refine ⟨hk.blk h.r h.ne, ?_, h.ne, h.lo, hk.own hl (own_notT hl h.o (by decide)), ?_, h.bel.setCell h.lo.2 _⟩
  · rw [hy]
    exact blk_set h.o i v
  · refine h.ws.kept hk (fun g cur hg e => ?_)
    have e : g = ob := e
    rw [e, h.o] at hg
    simp only [Option.some.injEq, Obj.cells.injEq] at hg
    exact absurd hg.2.1 (by decide)
end
theorem nx_no {f : Bool} {R : List ByteArray} (h : (f && !R.isEmpty) = false) : nx f R = R := by
  unfold nx
  cases f with
  | false => rfl
  | true =>
    cases R with
    | nil => rfl
    | cons x r => simp at h
theorem on_no {f : Bool} {R : List ByteArray} (h : (f && !R.isEmpty) = false) (hf : f = true) : R = [] := by
  subst hf
  cases R with
  | nil => rfl
  | cons x r => simp at h
theorem on_yes {f : Bool} {R : List ByteArray} (h : (f && !R.isEmpty) = true) : f = true ∧ ∃ x r, R = x :: r := by
  cases f with
  | false => simp at h
  | true =>
    cases R with
    | nil => simp at h
    | cons x r => exact ⟨rfl, x, r, rfl⟩
theorem on_len {f : Bool} {R : List ByteArray} : (f && !R.isEmpty) = (f && decide (0 < R.length)) := by
  cases R <;> simp
/-- x is read off the words l. -/
structure SRead (l : List ByteArray) (x : OpR) : Prop where
  kind : x.kind = (kindOf (hd l) : Int)
  name : (fName (kindOf (hd l)) = true → wd1 l ≠ [] → x.name = numOf (hd (wd1 l))) ∧ (fName (kindOf (hd l)) = false → x.name = 0)
  own : (fOwner (kindOf (hd l)) = true → wd2 (kindOf (hd l)) l ≠ [] → x.own = hd (wd2 (kindOf (hd l)) l)) ∧ (fOwner (kindOf (hd l)) = false → x.own = ⟨#[]⟩)
  legs : (decide (0 < fLegs (kindOf (hd l))) = true → wd3 (kindOf (hd l)) l ≠ [] → LegsTold (hd (wd3 (kindOf (hd l)) l)) x.L) ∧ (decide (0 < fLegs (kindOf (hd l))) = false → x.L = [])
  party : (fParty (kindOf (hd l)) = true → wd4 (kindOf (hd l)) l ≠ [] → x.p = readQ (hd (wd4 (kindOf (hd l)) l))) ∧ (fParty (kindOf (hd l)) = false → x.p = noParty)
  unt : (fUntil (kindOf (hd l)) = true → wd5 (kindOf (hd l)) l ≠ [] → x.unt = numOf (hd (wd5 (kindOf (hd l)) l))) ∧ (fUntil (kindOf (hd l)) = false → x.unt = 0)
  now : (fNow (kindOf (hd l)) = true → wd6 (kindOf (hd l)) l ≠ [] → x.now = numOf (hd (wd6 (kindOf (hd l)) l))) ∧ (fNow (kindOf (hd l)) = false → x.now = 0)
theorem opt_ne {b : Bool} (h : b = true) (p : ByteArray) (L : List ByteArray) : opt b p ++ L ≠ [] := by
  subst h
  unfold opt
  simp

set_option maxHeartbeats 1600000 in
theorem sread_back {y : OpD} (h : HasText y) {l : List ByteArray} {x : OpR} (hl : Parts 32 (opT y) l) (hr : SRead l x) : SameOp x.d y := by
  have e := parts_one hl (parts_op h)
  obtain ⟨k, hk⟩ : ∃ k, y.kind.toNat = k := ⟨_, rfl⟩
  have hkI : y.kind = (k : Int) := by have := h.1.1; unfold In at this; omega
  have hk9 : k < 10 := by have := h.1.1; unfold In at this; omega
  rw [op_list, hk] at e
  have r1 := hr.kind
  have r2 := hr.name
  have r3 := hr.own
  have r4 := hr.legs
  have r5 := hr.party
  have r6 := hr.unt
  have r7 := hr.now
  have eh : hd l = wordT k := by rw [e]; rfl
  have ek : kindOf (hd l) = k := by rw [eh]; exact kindOf_word hk9
  rw [ek] at r1 r2 r3 r4 r5 r6 r7
  have d1 : wd1 l = opt (fName k) (numT y.name) ++ (opt (fOwner k) y.own ++ (opt (decide (0 < fLegs k)) (legsT y.lgn y.lg) ++ (opt (fParty k) (partyT y.p) ++ (opt (fUntil k) (numT y.unt) ++ (opt (fNow k) (numT y.now) ++ []))))) := by rw [e]; rfl
  have d2 : wd2 k l = opt (fOwner k) y.own ++ (opt (decide (0 < fLegs k)) (legsT y.lgn y.lg) ++ (opt (fParty k) (partyT y.p) ++ (opt (fUntil k) (numT y.unt) ++ (opt (fNow k) (numT y.now) ++ [])))) := by unfold wd2; rw [d1, nx_opt]
  have d3 : wd3 k l = opt (decide (0 < fLegs k)) (legsT y.lgn y.lg) ++ (opt (fParty k) (partyT y.p) ++ (opt (fUntil k) (numT y.unt) ++ (opt (fNow k) (numT y.now) ++ []))) := by unfold wd3; rw [d2, nx_opt]
  have d4 : wd4 k l = opt (fParty k) (partyT y.p) ++ (opt (fUntil k) (numT y.unt) ++ (opt (fNow k) (numT y.now) ++ [])) := by unfold wd4; rw [d3, nx_opt]
  have d5 : wd5 k l = opt (fUntil k) (numT y.unt) ++ (opt (fNow k) (numT y.now) ++ []) := by unfold wd5; rw [d4, nx_opt]
  have d6 : wd6 k l = opt (fNow k) (numT y.now) ++ [] := by unfold wd6; rw [d5, nx_opt]
  rw [d1] at r2
  rw [d2] at r3
  rw [d3] at r4
  rw [d4] at r5
  rw [d5] at r6
  rw [d6] at r7
  have q2 : x.name = y.name := by
    cases c : fName k with
    | false => rw [zero_name h hk c]; exact r2.2 c
    | true =>
      have r2 := r2.1 c (opt_ne c _ _)
      rw [hd_opt c] at r2
      have := rng1 h hk c
      rw [r2]
      exact numOf_text ⟨this.1, by omega⟩
  have q3 : x.own = y.own := by
    cases c : fOwner k with
    | false => rw [zero_own h hk c]; exact r3.2 c
    | true =>
      have r3 := r3.1 c (opt_ne c _ _)
      rw [hd_opt c] at r3
      exact r3
  have q4 : x.L.length = y.lgn ∧ ∀ i, i < y.lgn → getI x.L i = y.lg i := by
    cases c : decide (0 < fLegs k) with
    | false =>
      have r4 : x.L = [] := r4.2 c
      rw [zero_legs h hk c, r4]
      exact ⟨rfl, fun i hi => by omega⟩
    | true =>
      have r4 := r4.1 c (opt_ne c _ _)
      rw [hd_opt c] at r4
      exact told_back (rng3 h hk c).1 h.2 r4
  have q5 : x.p = y.p := by
    cases c : fParty k with
    | false => rw [zero_party h hk c]; exact r5.2 c
    | true =>
      have r5 := r5.1 c (opt_ne c _ _)
      rw [hd_opt c] at r5
      rw [r5]
      exact readQ_back (rng4 h hk c)
  have q6 : x.unt = y.unt := by
    cases c : fUntil k with
    | false => rw [zero_unt h hk c]; exact r6.2 c
    | true =>
      have r6 := r6.1 c (opt_ne c _ _)
      rw [hd_opt c] at r6
      have := rng5 h hk c
      rw [r6]
      exact numOf_text ⟨this.1, by omega⟩
  have q7 : x.now = y.now := by
    cases c : fNow k with
    | false => rw [zero_now h hk c]; exact r7.2 c
    | true =>
      have r7 := r7.1 c (opt_ne c _ _)
      rw [hd_opt c] at r7
      have := rng6 h hk c
      rw [r7]
      exact numOf_text ⟨this.1, by omega⟩
  exact ⟨by rw [hkI]; exact r1, q3, q2, q4.1, q4.2, q5, q6, q7⟩

/-- The kind that was found among the first n words. -/
def KindAt (s : ByteArray) (n K : Nat) : Prop := (∃ j, 0 < j ∧ j < n ∧ j < 10 ∧ wordT j = s ∧ K = j) ∨ ((∀ j, 0 < j → j < n → wordT j ≠ s) ∧ K = 0)
theorem wordT_inj : ∀ {i : Nat}, i < 10 → ∀ {j : Nat}, j < 10 → wordT i = wordT j → i = j := fun hi _ hj e => by
  have h1 := kindOf_word hi
  have h2 := kindOf_word hj
  rw [e] at h1
  exact h1.symm.trans h2
theorem KindAt.done {s : ByteArray} {K : Nat} (h : KindAt s 10 K) : K = kindOf s := by
  rcases h with ⟨j, _, _, hj, e, rfl⟩ | ⟨h, rfl⟩
  · rw [← e]; exact (kindOf_word hj).symm
  · unfold kindOf
    by_cases c : wordT 0 = s
    · rw [kindTo_at (k := 0) (n := 10) (by omega) c (fun j hj => by omega), if_pos (by omega)]
    · rw [kindTo_not (n := 10) (fun j hj => by
        rcases Nat.eq_zero_or_pos j with rfl | hp
        · exact c
        · exact h j hp hj), if_neg (by omega)]
theorem KindAt.hit {s : ByteArray} {n : Nat} (hn : 0 < n) (h10 : n < 10) (e : wordT n = s) : KindAt s (n + 1) n := .inl ⟨n, hn, by omega, h10, e, rfl⟩
theorem KindAt.miss {s : ByteArray} {n K : Nat} (h : KindAt s n K) (e : n = 0 ∨ wordT n ≠ s) : KindAt s (n + 1) K := by
  rcases h with ⟨j, h1, h2, h3, h4, h5⟩ | ⟨h1, h2⟩
  · exact .inl ⟨j, h1, by omega, h3, h4, h5⟩
  · refine .inr ⟨fun j h3 h4 => ?_, h2⟩
    by_cases c : j = n
    · subst c
      rcases e with rfl | e
      · omega
      · exact e
    · exact h1 j h3 (by omega)
/-- The ten words lie there. -/
def TenAt (w : World) (g : Nat) : Prop := g < w.heap.size ∧ ∀ k, k < 10 → w.cell? ⟨g, k, none⟩ = some (.string (wordT k))
theorem TenAt.of {w : World} {g : Nat} (h : ∀ k, k < 10 → w.cell? ⟨g, k, none⟩ = some (.string (wordT k))) : TenAt w g := by
  refine ⟨?_, h⟩
  rcases Nat.lt_or_ge g w.heap.size with h' | h'
  · exact h'
  · have h0 := h 0 (by omega)
    rw [World.cell?, Array.getElem?_eq_none h'] at h0
    cases h0
theorem TenAt.store {w : World} {g ob t : Nat} {cs : Array Value} {z : Int} (h : TenAt w g) (ho : w.heap[ob]? = some (.cells cs t (0, 0))) (h0 : cs[0]? = some (.int .i64 z)) (i : Nat) (v : Value) : TenAt (w.setCell ⟨ob, i, none⟩ v) g := by
  have hne : ¬ g = ob := by
    rintro rfl
    have h1 := h.2 0 (by omega)
    rw [blk_cell ho 0 _ h0] at h1
    cases h1
  have hk : Kept w (w.setCell ⟨ob, i, none⟩ v) (fun g => g = ob) := (Kept.refl w (fun g => g = ob)).set (a := ⟨ob, i, none⟩) rfl v
  refine ⟨by rw [World.size_setCell]; exact h.1, fun k hk2 => ?_⟩
  rw [← h.2 k hk2]
  exact World.cell?_of_block (hk.block g h.1 hne)

end Go.Proofs.YtfbooamjddnagaaDoor

namespace Go.Proofs.YtfbooamjddnagaaDoor
open Go.RowKit

theorem nx_mem {b : Bool} {L : List ByteArray} {q : ByteArray} (h : q ∈ nx b L) : q ∈ L := by
  unfold nx at h
  split at h
  · exact List.mem_of_mem_tail h
  · exact h
theorem mem_wd2 {k : Nat} {l : List ByteArray} {q : ByteArray} (h : q ∈ wd2 k l) : q ∈ l := List.mem_of_mem_tail (nx_mem h)
theorem mem_wd3 {k : Nat} {l : List ByteArray} {q : ByteArray} (h : q ∈ wd3 k l) : q ∈ l := mem_wd2 (nx_mem h)
theorem mem_wd4 {k : Nat} {l : List ByteArray} {q : ByteArray} (h : q ∈ wd4 k l) : q ∈ l := mem_wd3 (nx_mem h)

set_option maxHeartbeats 64000000 in
set_option maxRecDepth 100000 in
theorem specRead_any (s : ByteArray) (w : World) (hs : s.size ≤ 1048576) :
    Calls Tryd.prog 12 #[.string s] w fun e w' => ReadPost s w e w' := by
  have hr := heap_alloc_new w (.cells #[.int .i64 0, .string ⟨#[]⟩, .int .i64 0, .slice none 0 0, .int .i64 0, .int .i64 0, .int .i64 0, .int .i64 0, .bool false, .int .i64 0, .int .i64 0, .int .i64 0] 32)
  have hb0 : Below w.heap.size w (w.alloc (.cells #[.int .i64 0, .string ⟨#[]⟩, .int .i64 0, .slice none 0 0, .int .i64 0, .int .i64 0, .int .i64 0, .int .i64 0, .bool false, .int .i64 0, .int .i64 0, .int .i64 0] 32)) := push (Below.refl _ _) _
  go_enter Tryd.func12, Tryd.ntmps12
  go_upto_region 1 with fail
  generalize w.alloc (.cells #[.int .i64 0, .string ⟨#[]⟩, .int .i64 0, .slice none 0 0, .int .i64 0, .int .i64 0, .int .i64 0, .int .i64 0, .bool false, .int .i64 0, .int .i64 0, .int .i64 0] 32) = W at hr hb0 ⊢
  go_wp2_with fail
  refine (l11Split_any s 32 _ hs).mono ?_
  rintro e w1 ⟨v, l, rfl, ho, HPL, hb⟩
  have HL : Hid (∀ q, q ∈ l → q.size ≤ 1048576) := fun q hq => by have := parts_le HPL.out.1 q hq; omega
  have HPT : Hid (Parts 32 s l) := HPL.out.1
  have hlen : 0 < l.length := by
    rcases Nat.eq_zero_or_pos l.length with h | h
    · exact absurd (List.eq_nil_of_length_eq_zero h) HPL.out.1.1
    · exact h
  have hr1 := blk_below hr hb
  have hB1 := after hb0 hb
  have hlt := blk_lt hr1
  have HWD : Hid (SWd (w1.alloc (.cells #[.int .i64 0, .string ⟨#[]⟩, .int .i64 0, .slice none 0 0, .int .i64 0, .int .i64 0, .int .i64 0, .int .i64 0, .bool false, .int .i64 0, .int .i64 0, .int .i64 0] 32)) v l) := (SWd.of_own ho).below (push (Below.refl _ _) _)
  obtain ⟨va, vc, rfl, hvc, hvm, hvn⟩ := own_form ho
  have HS : Hid (SOp w (w1.alloc (.cells #[.int .i64 0, .string ⟨#[]⟩, .int .i64 0, .slice none 0 0, .int .i64 0, .int .i64 0, .int .i64 0, .int .i64 0, .bool false, .int .i64 0, .int .i64 0, .int .i64 0] 32)) w.heap.size w1.heap.size ⟨((0 : Nat) : Int), ⟨#[]⟩, 0, .slice none 0 0, [], noParty, 0, 0⟩ (.slice va l.length vc) l) :=
    ⟨blk_alloc hr1 _, heap_alloc_new w1 _, by omega, ⟨Nat.le_refl _, hB1.size⟩, World.ownsRow_nil _ _ _ _, HWD.out, push hB1 _⟩
  clear hr hb0 ho hb hr1 hB1 HWD HPL hvn hvm hvc hlt
  go_upto_region 3 with fail
  generalize w1.alloc (.cells #[.int .i64 0, .string ⟨#[]⟩, .int .i64 0, .slice none 0 0, .int .i64 0, .int .i64 0, .int .i64 0, .int .i64 0, .bool false, .int .i64 0, .int .i64 0, .int .i64 0] 32) = W2 at HS ⊢
  generalize w1.heap.size = ob at HS ⊢
  go_wp2_with fail
  refine (l11Words_any _).mono ?_
  rintro e w3 ⟨g, rfl, HTN, hb⟩
  have HS3 : Hid (SOp w w3 w.heap.size ob ⟨((0 : Nat) : Int), ⟨#[]⟩, 0, .slice none 0 0, [], noParty, 0, 0⟩ (.slice va l.length vc) l) := HS.out.below hb
  have HT3 : Hid (TenAt w3 g) := TenAt.of HTN.out
  clear HS HTN hb
  obtain ⟨s0, hs0⟩ : ∃ s0, s0 = hd l := ⟨_, rfl⟩
  have HS0 : Hid (s0 = hd l) := hs0
  clear hs0
  generalize w.heap.size = rb at HS3 ⊢
  go_wp2
  go_loopw [6, 7, 15] (fun _ _ i wr => ∃ n K : Nat, n ≤ 10 ∧ i = .int .i64 n ∧ K < 10 ∧ Hid (KindAt s0 n K) ∧ Hid (TenAt wr g) ∧ Hid (SOp w wr rb ob ⟨(K : Int), ⟨#[]⟩, 0, .slice none 0 0, [], noParty, 0, 0⟩ (.slice va l.length vc) l)) (fun _ _ i _ => 10 - (intOf i).toNat)
  case atStart => exact ⟨0, 0, by omega, rfl, by omega, .inr ⟨fun j _ h => by omega, rfl⟩, HT3, HS3⟩
  case round =>
    clear HS3 HT3
    obtain ⟨n, K, hn, rfl, hK, HKA, HT, HS⟩ := hrel
    by_cases hlt : n < 10
    · have d1 : decide ((n : Int) < 10) = true := decide_eq_true (by omega)
      have c1 := HT.out.2 n hlt
      obtain ⟨x, r, hxr⟩ : ∃ x r, l = x :: r := by
        cases l with
        | nil => simp at hlen
        | cons x r => exact ⟨x, r, rfl⟩
      have hws : SWd wr (.slice va l.length vc) (x :: r) := by rw [← hxr]; exact HS.out.ws
      obtain ⟨gg, oo, cc, hv, hcc, hce⟩ := hws.head
      have hx : x = s0 := by rw [HS0.out, hxr]; rfl
      subst hx
      simp only [Value.slice.injEq] at hv
      obtain ⟨rfl, hvl, rfl⟩ := hv
      have HX : Hid (l = x :: r) := hxr
      have HVL : Hid (l.length = r.length + 1) := hvl
      have i0 : (0 : Int) < (l.length : Int) := by omega
      have bo := HS.out.o
      have y0 := blk_cell bo 0 _ rfl
      have f0 := blk_free bo 0
      clear hxr hws hcc hvl
      rcases Nat.eq_zero_or_pos n with h0 | h0
      · have HM : Hid (KindAt x (n + 1) K) := HKA.out.miss (.inl h0)
        have e0 : decide ((0 : Int) < (n : Int)) = false := decide_eq_false (by omega)
        have e0' : decide (0 < n) = false := decide_eq_false (by omega)
        have HN0 : Hid (n = 0) := h0
        clear h0 bo
        go_wp2
        go_roundw
        case rel => exact ⟨n + 1, K, by omega, by go_num, hK, HM, HT, HS⟩
        case measure => simp [intOf]; omega
      · have e0 : decide ((0 : Int) < (n : Int)) = true := decide_eq_true (by omega)
        have e0' : decide (0 < n) = true := decide_eq_true h0
        by_cases he : wordT n = x
        · have HM : Hid (KindAt x (n + 1) n) := KindAt.hit h0 hlt he
          have ee : ((wordT n).toList == x.toList) = true := bytes_eq.2 he
          have HS1 : Hid _ := HS.out.store 0 (.int .i64 (n : Int)) ⟨(n : Int), ⟨#[]⟩, 0, .slice none 0 0, [], noParty, 0, 0⟩ rfl HS.out.leg
          have HT1 : Hid _ := HT.out.store bo rfl 0 (.int .i64 (n : Int))
          clear he bo HS HT HKA
          go_wp2
          go_roundw
          case rel => exact ⟨n + 1, n, by omega, by go_num, hlt, HM, HT1.out, HS1.out⟩
          case measure => simp [intOf]; omega
        · have HM : Hid (KindAt x (n + 1) K) := HKA.out.miss (.inr he)
          have ee : ((wordT n).toList == x.toList) = false := bytes_ne.2 he
          clear he bo
          go_wp2
          go_roundw
          case rel => exact ⟨n + 1, K, by omega, by go_num, hK, HM, HT, HS⟩
          case measure => simp [intOf]; omega
    · obtain rfl : n = 10 := by omega
      have hk := HKA.out.done
      rw [HS0.out] at hk
      have HK : Hid (kindOf (hd l) = K) := hk.symm
      clear hk HKA HT HS0 hn hlt
      obtain ⟨x, r, hxr⟩ : ∃ x r, l = x :: r := by
        cases l with
        | nil => simp at hlen
        | cons x r => exact ⟨x, r, rfl⟩
      have hws : SWd wr (.slice va l.length vc) (x :: r) := by rw [← hxr]; exact HS.out.ws
      obtain ⟨gg, oo, cc, hv, hcc, hce⟩ := hws.head
      have HWT : Hid (SWd wr (.slice (some ⟨gg, oo, none⟩) (r.length + 1) cc) (x :: r)) := by rw [← hv]; exact hws
      have hR1 : wd1 l = r := by rw [hxr]; rfl
      have HR1 : Hid (wd1 l = r) := hR1
      rw [hv] at HS
      have hv2 := hv
      simp only [Value.slice.injEq] at hv2
      obtain ⟨rfl, hvl, rfl⟩ := hv2
      rw [hvl]
      have HSA : Hid (∀ u, SWd wr u r → SOp w wr rb ob ⟨(K : Int), ⟨#[]⟩, 0, .slice none 0 0, [], noParty, 0, 0⟩ u (wd1 l)) := fun u hu => by rw [HR1.out]; exact HS.out.words hu
      have i1 : (1 : Int) ≤ (r.length : Int) + 1 := by omega
      clear hws hv hxr hR1 hce hvl hlen HS
      go_upto_region 9 with fail
      go_cut [4] (fun u wx => Hid (SOp w wx rb ob ⟨(K : Int), ⟨#[]⟩, 0, .slice none 0 0, [], noParty, 0, 0⟩ u (wd1 l)))
      case first =>
        as_aux_lemma =>
          by_cases hc : vc = 1
          · subst hc
            have hr0 : r.length = 0 := by omega
            have hk9 := HSA.out _ (HWT.out.take (some ⟨gg, oo, none⟩) 0 rfl (fun h => by omega))
            rw [hr0] at hk9
            have HK9 : Hid _ := hk9
            clear hk9
            go_wp2
            go_meet
            first | exact HK9.out | (simpa [hr0] using HK9.out)
          · have hc1 : (vc = 1) = False := eq_false hc
            have HK9 : Hid (∀ (ad : Option Addr) (c' : Nat), c' = vc - 1 → (0 < r.length → ad = some ⟨gg, oo + 1, none⟩) → SOp w wr rb ob ⟨(K : Int), ⟨#[]⟩, 0, .slice none 0 0, [], noParty, 0, 0⟩ (.slice ad r.length c') (wd1 l)) := fun ad c' h1 h2 => HSA.out _ (HWT.out.take ad c' h1 h2)
            clear hc
            go_wp2
            go_meet
            exact HK9.out _ _ (by first | rfl | omega) (fun h => by first | rfl | simp)
      case rest =>
      have HS0 : Hid (SOp w wc rb ob ⟨(K : Int), ⟨#[]⟩, 0, .slice none 0 0, [], noParty, 0, 0⟩ u4 (wd1 l)) := hcut
      clear hcut HSA HWT HR1 i1 hcc
      generalize wc = W1x at HS0 ⊢
      obtain ⟨R1, hR⟩ : ∃ R, R = wd1 l := ⟨_, rfl⟩
      rw [← hR] at HS0
      have HR1 : Hid (wd1 l = R1) := hR.symm
      clear hR
      obtain ⟨ao1, c1, hu, hc1, hj1, hj2⟩ := HS0.out.ws
      clear hj1 hj2
      subst hu
      have y0 : W1x.cell? ⟨ob, 0, none⟩ = some (.int .i64 (K : Int)) := blk_cell HS0.out.o 0 _ rfl
      obtain ⟨q1, hq⟩ : ∃ q, q = (fName K && !R1.isEmpty) := ⟨_, rfl⟩
      have HQ1 : Hid (q1 = (fName K && !R1.isEmpty)) := hq
      rw [on_len] at hq
      have HQL1 : Hid (q1 = (fName K && decide (0 < R1.length))) := hq
      clear hq
      go_upto_region 10 with fail
      go_cut [41] (fun v wx => Hid (v = .bool q1 ∧ wx = W1x))
      case first =>
        as_aux_lemma =>
          have done : Hid (∀ b : Bool, fName K = b → q1 = (b && decide (0 < R1.length))) := fun b h => by rw [HQL1.out, h]
          clear HQ1 HQL1 HR1
          by_cases k0 : 4 ≤ K ∧ K ≤ 8
          · have hf : fName K = true := by unfold fName; exact decide_eq_true (by omega)
            have dN : decide (In (K : Int) 4 8) = true := decide_eq_true (show (4 : Int) ≤ K ∧ (K : Int) ≤ 8 from ⟨by omega, by omega⟩)
            have hq := done.out true hf
            clear hf done k0
            by_cases hn : 0 < R1.length
            · have n1 : decide (0 < R1.length) = true := decide_eq_true (by omega)
              have n2 : decide ((0 : Int) < (R1.length : Int)) = true := decide_eq_true (by omega)
              rw [n1] at hq
              replace hq : q1 = true := hq
              subst hq
              clear hn
              go_wp2_with (first | (go_at_call 39; refine (l7Named_is _ _).mono ?_; rintro e w' ⟨rfl, hw'⟩; have hw' := hw'.symm; subst hw') | (go_at_call 41; refine (l7Legs_is _ _).mono ?_; rintro e w' ⟨rfl, hw'⟩; have hw' := hw'.symm; subst hw'))
              go_meet
              exact ⟨rfl, rfl⟩
            · have n1 : decide (0 < R1.length) = false := decide_eq_false (by omega)
              have n2 : decide ((0 : Int) < (R1.length : Int)) = false := decide_eq_false (by omega)
              rw [n1] at hq
              replace hq : q1 = false := hq
              subst hq
              clear hn
              go_wp2_with (first | (go_at_call 39; refine (l7Named_is _ _).mono ?_; rintro e w' ⟨rfl, hw'⟩; have hw' := hw'.symm; subst hw') | (go_at_call 41; refine (l7Legs_is _ _).mono ?_; rintro e w' ⟨rfl, hw'⟩; have hw' := hw'.symm; subst hw'))
              go_meet
              exact ⟨rfl, rfl⟩
          have hf : fName K = false := by unfold fName; exact decide_eq_false (by omega)
          have dN : decide (In (K : Int) 4 8) = false := decide_eq_false (fun h => by have h1 : (4 : Int) ≤ K := h.1; have h2 : (K : Int) ≤ 8 := h.2; omega)
          have hq := done.out false hf
          clear hf done k0
          replace hq : q1 = false := hq
          subst hq
          go_wp2_with (first | (go_at_call 39; refine (l7Named_is _ _).mono ?_; rintro e w' ⟨rfl, hw'⟩; have hw' := hw'.symm; subst hw') | (go_at_call 41; refine (l7Legs_is _ _).mono ?_; rintro e w' ⟨rfl, hw'⟩; have hw' := hw'.symm; subst hw'))
          go_meet
          exact ⟨rfl, rfl⟩
      case rest =>
      obtain ⟨hvv, hwx⟩ := hcut.out
      clear hcut
      subst hvv
      have hwx := hwx.symm
      subst hwx
      clear HQL1 y0
      go_upto_if 41 with fail
      go_cut [4] (fun u wx => ∃ z1, Hid (SOp w wx rb ob ⟨(K : Int), ⟨#[]⟩, z1, (.slice none 0 0), [], noParty, 0, 0⟩ u (wd2 K l) ∧ ((fName K = true → wd1 l ≠ [] → z1 = numOf (hd (wd1 l))) ∧ (fName K = false → z1 = 0))))
      case first =>
        as_aux_lemma =>
          cases q1 with
          | false =>
            have HNX : Hid (wd2 K l = R1) := by
              show wd2 K l = R1
              unfold wd2
              rw [HR1.out]
              exact nx_no HQ1.out.symm
            have HNO : Hid (fName K = true → wd1 l ≠ [] → False) := fun h1 h2 => h2 (HR1.out.trans (on_no HQ1.out.symm h1))
            clear HQ1 HR1
            go_wp2
            go_meet
            exact ⟨0, (show SOp w _ rb ob ⟨(K : Int), ⟨#[]⟩, 0, (.slice none 0 0), [], noParty, 0, 0⟩ _ (wd2 K l) from by rw [HNX.out]; exact HS0.out), (fun h1 h2 => (HNO.out h1 h2).elim), (fun _ => rfl)⟩
          | true =>
            obtain ⟨hfl, x, r, hxr⟩ := on_yes HQ1.out.symm
            have HNX : Hid (wd2 K l = r) := by
              show wd2 K l = r
              unfold wd2 nx
              rw [HR1.out, hfl, hxr]
              rfl
            have HHD : Hid (hd (wd1 l) = x) := by
              show hd (wd1 l) = x
              rw [HR1.out, hxr]
              rfl
            have HFL : Hid (fName K = true) := hfl
            have hsx : SOp w W1x rb ob ⟨(K : Int), ⟨#[]⟩, 0, (.slice none 0 0), [], noParty, 0, 0⟩ (.slice ao1 R1.length c1) (x :: r) := by rw [← hxr]; exact HS0.out
            obtain ⟨g1, o1, cc, hv, hcc, hce⟩ := hsx.ws.head
            simp only [Value.slice.injEq] at hv
            obtain ⟨rfl, hvl, rfl⟩ := hv
            rw [hvl] at hsx ⊢
            have HSX : Hid _ := hsx
            have i0 : (0 : Int) < (r.length : Int) + 1 := by omega
            have i1 : (1 : Int) ≤ (r.length : Int) + 1 := by omega
            clear hsx hvl hxr hfl HQ1 HR1 HS0 hc1
            go_wp2_with fail
            refine (l11Number_any x _).mono ?_
            rintro e w5 ⟨rfl, hw5⟩
            have hw5 := hw5.symm
            subst hw5
            have HSY : Hid (SOp w W1x rb ob ⟨(K : Int), ⟨#[]⟩, 0, (.slice none 0 0), [], noParty, 0, 0⟩ (.slice (some ⟨g1, o1, none⟩) (r.length + 1) c1) (x :: r)) := HSX.out
            clear HSX
            have o5 := HSY.out.o
            have x5 := blk_cell o5 2 _ rfl
            have g5 := blk_free o5 2
            have H6 : Hid _ := HSY.out.store 2 (.int .i64 (numOf x)) ⟨(K : Int), ⟨#[]⟩, (numOf x), (.slice none 0 0), [], noParty, 0, 0⟩ rfl HSY.out.leg
            clear o5 HSY
            by_cases hc : c1 = 1
            · subst hc
              have hr0 : r.length = 0 := by omega
              have hk9 := H6.out.words (H6.out.ws.take (some ⟨g1, o1, none⟩) 0 rfl (fun h => by omega))
              rw [hr0] at hk9
              have HK9 : Hid _ := hk9
              clear hk9 H6
              go_wp2
              go_meet
              exact ⟨numOf x, (by rw [HNX.out]; exact HK9.out), (fun _ _ => by rw [HHD.out]), (fun h => by rw [HFL.out] at h; cases h)⟩
            · have hc1 : (c1 = 1) = False := eq_false hc
              clear hc
              go_wp2
              go_meet
              exact ⟨numOf x, (by rw [HNX.out]; exact H6.out.words (H6.out.ws.take _ _ (by first | rfl | omega) (fun h => by first | rfl | simp))), (fun _ _ => by rw [HHD.out]), (fun h => by rw [HFL.out] at h; cases h)⟩
      case rest =>
      obtain ⟨z1, HC1⟩ := hcut
      have HS1 : Hid (SOp w wc rb ob ⟨(K : Int), ⟨#[]⟩, z1, (.slice none 0 0), [], noParty, 0, 0⟩ u4 (wd2 K l)) := HC1.out.1
      have HE1 : Hid ((fName K = true → wd1 l ≠ [] → z1 = numOf (hd (wd1 l))) ∧ (fName K = false → z1 = 0)) := HC1.out.2
      clear HC1 HS0 HQ1 HR1 hc1
      generalize wc = W2x at HS1 ⊢
      obtain ⟨R2, hR⟩ : ∃ R, R = wd2 K l := ⟨_, rfl⟩
      rw [← hR] at HS1
      have HR2 : Hid (wd2 K l = R2) := hR.symm
      clear hR
      obtain ⟨ao2, c2, hu, hc2, hj1, hj2⟩ := HS1.out.ws
      clear hj1 hj2
      subst hu
      have y0 : W2x.cell? ⟨ob, 0, none⟩ = some (.int .i64 (K : Int)) := blk_cell HS1.out.o 0 _ rfl
      obtain ⟨q2, hq⟩ : ∃ q, q = (fOwner K && !R2.isEmpty) := ⟨_, rfl⟩
      have HQ2 : Hid (q2 = (fOwner K && !R2.isEmpty)) := hq
      rw [on_len] at hq
      have HQL2 : Hid (q2 = (fOwner K && decide (0 < R2.length))) := hq
      clear hq
      go_upto_region 13 with fail
      go_cut [66] (fun v wx => Hid (v = .bool q2 ∧ wx = W2x))
      case first =>
        as_aux_lemma =>
          have done : Hid (∀ b : Bool, fOwner K = b → q2 = (b && decide (0 < R2.length))) := fun b h => by rw [HQL2.out, h]
          clear HQ2 HQL2 HR2
          by_cases k0 : K = 2
          · have hf : fOwner K = true := by unfold fOwner; exact decide_eq_true (by omega)
            have e2 : ((K : Int) == 2) = true := by rw [beq_iff_eq]; omega
            have e2' : (K == 2) = true := by rw [beq_iff_eq]; omega
            have hq := done.out true hf
            clear hf done k0
            by_cases hn : 0 < R2.length
            · have n1 : decide (0 < R2.length) = true := decide_eq_true (by omega)
              have n2 : decide ((0 : Int) < (R2.length : Int)) = true := decide_eq_true (by omega)
              rw [n1] at hq
              replace hq : q2 = true := hq
              subst hq
              clear hn
              go_wp2_with (first | (go_at_call 39; refine (l7Named_is _ _).mono ?_; rintro e w' ⟨rfl, hw'⟩; have hw' := hw'.symm; subst hw') | (go_at_call 41; refine (l7Legs_is _ _).mono ?_; rintro e w' ⟨rfl, hw'⟩; have hw' := hw'.symm; subst hw'))
              go_meet
              exact ⟨rfl, rfl⟩
            · have n1 : decide (0 < R2.length) = false := decide_eq_false (by omega)
              have n2 : decide ((0 : Int) < (R2.length : Int)) = false := decide_eq_false (by omega)
              rw [n1] at hq
              replace hq : q2 = false := hq
              subst hq
              clear hn
              go_wp2_with (first | (go_at_call 39; refine (l7Named_is _ _).mono ?_; rintro e w' ⟨rfl, hw'⟩; have hw' := hw'.symm; subst hw') | (go_at_call 41; refine (l7Legs_is _ _).mono ?_; rintro e w' ⟨rfl, hw'⟩; have hw' := hw'.symm; subst hw'))
              go_meet
              exact ⟨rfl, rfl⟩
          by_cases k1 : K = 3
          · have hf : fOwner K = true := by unfold fOwner; exact decide_eq_true (by omega)
            have e2 : ((K : Int) == 2) = false := by rw [beq_eq_false_iff_ne]; omega
            have e2' : (K == 2) = false := by rw [beq_eq_false_iff_ne]; omega
            have e3 : ((K : Int) == 3) = true := by rw [beq_iff_eq]; omega
            have e3' : (K == 3) = true := by rw [beq_iff_eq]; omega
            have hq := done.out true hf
            clear hf done k0 k1
            by_cases hn : 0 < R2.length
            · have n1 : decide (0 < R2.length) = true := decide_eq_true (by omega)
              have n2 : decide ((0 : Int) < (R2.length : Int)) = true := decide_eq_true (by omega)
              rw [n1] at hq
              replace hq : q2 = true := hq
              subst hq
              clear hn
              go_wp2_with (first | (go_at_call 39; refine (l7Named_is _ _).mono ?_; rintro e w' ⟨rfl, hw'⟩; have hw' := hw'.symm; subst hw') | (go_at_call 41; refine (l7Legs_is _ _).mono ?_; rintro e w' ⟨rfl, hw'⟩; have hw' := hw'.symm; subst hw'))
              go_meet
              exact ⟨rfl, rfl⟩
            · have n1 : decide (0 < R2.length) = false := decide_eq_false (by omega)
              have n2 : decide ((0 : Int) < (R2.length : Int)) = false := decide_eq_false (by omega)
              rw [n1] at hq
              replace hq : q2 = false := hq
              subst hq
              clear hn
              go_wp2_with (first | (go_at_call 39; refine (l7Named_is _ _).mono ?_; rintro e w' ⟨rfl, hw'⟩; have hw' := hw'.symm; subst hw') | (go_at_call 41; refine (l7Legs_is _ _).mono ?_; rintro e w' ⟨rfl, hw'⟩; have hw' := hw'.symm; subst hw'))
              go_meet
              exact ⟨rfl, rfl⟩
          by_cases k2 : K = 7
          · have hf : fOwner K = true := by unfold fOwner; exact decide_eq_true (by omega)
            have e2 : ((K : Int) == 2) = false := by rw [beq_eq_false_iff_ne]; omega
            have e2' : (K == 2) = false := by rw [beq_eq_false_iff_ne]; omega
            have e3 : ((K : Int) == 3) = false := by rw [beq_eq_false_iff_ne]; omega
            have e3' : (K == 3) = false := by rw [beq_eq_false_iff_ne]; omega
            have e7 : ((K : Int) == 7) = true := by rw [beq_iff_eq]; omega
            have e7' : (K == 7) = true := by rw [beq_iff_eq]; omega
            have hq := done.out true hf
            clear hf done k0 k1 k2
            by_cases hn : 0 < R2.length
            · have n1 : decide (0 < R2.length) = true := decide_eq_true (by omega)
              have n2 : decide ((0 : Int) < (R2.length : Int)) = true := decide_eq_true (by omega)
              rw [n1] at hq
              replace hq : q2 = true := hq
              subst hq
              clear hn
              go_wp2_with (first | (go_at_call 39; refine (l7Named_is _ _).mono ?_; rintro e w' ⟨rfl, hw'⟩; have hw' := hw'.symm; subst hw') | (go_at_call 41; refine (l7Legs_is _ _).mono ?_; rintro e w' ⟨rfl, hw'⟩; have hw' := hw'.symm; subst hw'))
              go_meet
              exact ⟨rfl, rfl⟩
            · have n1 : decide (0 < R2.length) = false := decide_eq_false (by omega)
              have n2 : decide ((0 : Int) < (R2.length : Int)) = false := decide_eq_false (by omega)
              rw [n1] at hq
              replace hq : q2 = false := hq
              subst hq
              clear hn
              go_wp2_with (first | (go_at_call 39; refine (l7Named_is _ _).mono ?_; rintro e w' ⟨rfl, hw'⟩; have hw' := hw'.symm; subst hw') | (go_at_call 41; refine (l7Legs_is _ _).mono ?_; rintro e w' ⟨rfl, hw'⟩; have hw' := hw'.symm; subst hw'))
              go_meet
              exact ⟨rfl, rfl⟩
          have hf : fOwner K = false := by unfold fOwner; exact decide_eq_false (by omega)
          have e2 : ((K : Int) == 2) = false := by rw [beq_eq_false_iff_ne]; omega
          have e2' : (K == 2) = false := by rw [beq_eq_false_iff_ne]; omega
          have e3 : ((K : Int) == 3) = false := by rw [beq_eq_false_iff_ne]; omega
          have e3' : (K == 3) = false := by rw [beq_eq_false_iff_ne]; omega
          have e7 : ((K : Int) == 7) = false := by rw [beq_eq_false_iff_ne]; omega
          have e7' : (K == 7) = false := by rw [beq_eq_false_iff_ne]; omega
          have hq := done.out false hf
          clear hf done k0 k1 k2
          replace hq : q2 = false := hq
          subst hq
          go_wp2_with (first | (go_at_call 39; refine (l7Named_is _ _).mono ?_; rintro e w' ⟨rfl, hw'⟩; have hw' := hw'.symm; subst hw') | (go_at_call 41; refine (l7Legs_is _ _).mono ?_; rintro e w' ⟨rfl, hw'⟩; have hw' := hw'.symm; subst hw'))
          go_meet
          exact ⟨rfl, rfl⟩
      case rest =>
      obtain ⟨hvv, hwx⟩ := hcut.out
      clear hcut
      subst hvv
      have hwx := hwx.symm
      subst hwx
      clear HQL2 y0
      go_upto_if 66 with fail
      go_cut [4] (fun u wx => ∃ z2, Hid (SOp w wx rb ob ⟨(K : Int), z2, z1, (.slice none 0 0), [], noParty, 0, 0⟩ u (wd3 K l) ∧ ((fOwner K = true → wd2 K l ≠ [] → z2 = hd (wd2 K l)) ∧ (fOwner K = false → z2 = ⟨#[]⟩) ∧ z2.size ≤ 1048576)))
      case first =>
        as_aux_lemma =>
          cases q2 with
          | false =>
            have HNX : Hid (wd3 K l = R2) := by
              show wd3 K l = R2
              unfold wd3
              rw [HR2.out]
              exact nx_no HQ2.out.symm
            have HNO : Hid (fOwner K = true → wd2 K l ≠ [] → False) := fun h1 h2 => h2 (HR2.out.trans (on_no HQ2.out.symm h1))
            clear HQ2 HR2
            go_wp2
            go_meet
            exact ⟨⟨#[]⟩, (show SOp w _ rb ob ⟨(K : Int), ⟨#[]⟩, z1, (.slice none 0 0), [], noParty, 0, 0⟩ _ (wd3 K l) from by rw [HNX.out]; exact HS1.out), (fun h1 h2 => (HNO.out h1 h2).elim), (fun _ => rfl), Nat.zero_le _⟩
          | true =>
            obtain ⟨hfl, x, r, hxr⟩ := on_yes HQ2.out.symm
            have HNX : Hid (wd3 K l = r) := by
              show wd3 K l = r
              unfold wd3 nx
              rw [HR2.out, hfl, hxr]
              rfl
            have HHD : Hid (hd (wd2 K l) = x) := by
              show hd (wd2 K l) = x
              rw [HR2.out, hxr]
              rfl
            have HFL : Hid (fOwner K = true) := hfl
            have hxs : x.size ≤ 1048576 := HL.out x (mem_wd2 (by rw [HR2.out, hxr]; exact List.mem_cons_self))
            have hsx : SOp w W2x rb ob ⟨(K : Int), ⟨#[]⟩, z1, (.slice none 0 0), [], noParty, 0, 0⟩ (.slice ao2 R2.length c2) (x :: r) := by rw [← hxr]; exact HS1.out
            obtain ⟨g1, o1, cc, hv, hcc, hce⟩ := hsx.ws.head
            simp only [Value.slice.injEq] at hv
            obtain ⟨rfl, hvl, rfl⟩ := hv
            rw [hvl] at hsx ⊢
            have HSX : Hid _ := hsx
            have i0 : (0 : Int) < (r.length : Int) + 1 := by omega
            have i1 : (1 : Int) ≤ (r.length : Int) + 1 := by omega
            clear hsx hvl hxr hfl HQ2 HR2 HS1 hc2
            have HSY : Hid (SOp w W2x rb ob ⟨(K : Int), ⟨#[]⟩, z1, (.slice none 0 0), [], noParty, 0, 0⟩ (.slice (some ⟨g1, o1, none⟩) (r.length + 1) c2) (x :: r)) := HSX.out
            clear HSX
            have o5 := HSY.out.o
            have x5 := blk_cell o5 1 _ rfl
            have g5 := blk_free o5 1
            have H6 : Hid _ := HSY.out.store 1 (.string x) ⟨(K : Int), x, z1, (.slice none 0 0), [], noParty, 0, 0⟩ rfl HSY.out.leg
            clear o5 HSY
            by_cases hc : c2 = 1
            · subst hc
              have hr0 : r.length = 0 := by omega
              have hk9 := H6.out.words (H6.out.ws.take (some ⟨g1, o1, none⟩) 0 rfl (fun h => by omega))
              rw [hr0] at hk9
              have HK9 : Hid _ := hk9
              clear hk9 H6
              go_wp2
              go_meet
              exact ⟨x, (by rw [HNX.out]; exact HK9.out), (fun _ _ => by rw [HHD.out]), (fun h => by rw [HFL.out] at h; cases h), hxs⟩
            · have hc1 : (c2 = 1) = False := eq_false hc
              clear hc
              go_wp2
              go_meet
              exact ⟨x, (by rw [HNX.out]; exact H6.out.words (H6.out.ws.take _ _ (by first | rfl | omega) (fun h => by first | rfl | simp))), (fun _ _ => by rw [HHD.out]), (fun h => by rw [HFL.out] at h; cases h), hxs⟩
      case rest =>
      obtain ⟨z2, HC2⟩ := hcut
      have HS2 : Hid (SOp w wc rb ob ⟨(K : Int), z2, z1, (.slice none 0 0), [], noParty, 0, 0⟩ u4 (wd3 K l)) := HC2.out.1
      have HE2 : Hid ((fOwner K = true → wd2 K l ≠ [] → z2 = hd (wd2 K l)) ∧ (fOwner K = false → z2 = ⟨#[]⟩) ∧ z2.size ≤ 1048576) := HC2.out.2
      clear HC2 HS1 HQ2 HR2 hc2
      generalize wc = W3x at HS2 ⊢
      obtain ⟨R3, hR⟩ : ∃ R, R = wd3 K l := ⟨_, rfl⟩
      rw [← hR] at HS2
      have HR3 : Hid (wd3 K l = R3) := hR.symm
      clear hR
      obtain ⟨ao3, c3, hu, hc3, hj1, hj2⟩ := HS2.out.ws
      clear hj1 hj2
      subst hu
      have y0 : W3x.cell? ⟨ob, 0, none⟩ = some (.int .i64 (K : Int)) := blk_cell HS2.out.o 0 _ rfl
      obtain ⟨q3, hq⟩ : ∃ q, q = (decide (0 < fLegs K) && !R3.isEmpty) := ⟨_, rfl⟩
      have HQ3 : Hid (q3 = (decide (0 < fLegs K) && !R3.isEmpty)) := hq
      rw [on_len] at hq
      have HQL3 : Hid (q3 = (decide (0 < fLegs K) && decide (0 < R3.length))) := hq
      clear hq
      go_upto_region 16 with fail
      go_cut [85] (fun v wx => Hid (v = .bool q3 ∧ wx = W3x))
      case first =>
        as_aux_lemma =>
          have done : Hid (∀ b : Bool, decide (0 < fLegs K) = b → q3 = (b && decide (0 < R3.length))) := fun b h => by rw [HQL3.out, h]
          clear HQ3 HQL3 HR3
          by_cases k0 : K = 1 ∨ K = 2 ∨ K = 3 ∨ K = 5
          · have hf : decide (0 < fLegs K) = true := by unfold fLegs; rw [if_pos (by omega)]; rfl
            have dL : decide (HasLegs (K : Int)) = true := decide_eq_true (by unfold HasLegs; omega)
            have hq := done.out true hf
            clear hf done k0
            by_cases hn : 0 < R3.length
            · have n1 : decide (0 < R3.length) = true := decide_eq_true (by omega)
              have n2 : decide ((0 : Int) < (R3.length : Int)) = true := decide_eq_true (by omega)
              rw [n1] at hq
              replace hq : q3 = true := hq
              subst hq
              clear hn
              go_wp2_with (first | (go_at_call 39; refine (l7Named_is _ _).mono ?_; rintro e w' ⟨rfl, hw'⟩; have hw' := hw'.symm; subst hw') | (go_at_call 41; refine (l7Legs_is _ _).mono ?_; rintro e w' ⟨rfl, hw'⟩; have hw' := hw'.symm; subst hw'))
              go_meet
              exact ⟨rfl, rfl⟩
            · have n1 : decide (0 < R3.length) = false := decide_eq_false (by omega)
              have n2 : decide ((0 : Int) < (R3.length : Int)) = false := decide_eq_false (by omega)
              rw [n1] at hq
              replace hq : q3 = false := hq
              subst hq
              clear hn
              go_wp2_with (first | (go_at_call 39; refine (l7Named_is _ _).mono ?_; rintro e w' ⟨rfl, hw'⟩; have hw' := hw'.symm; subst hw') | (go_at_call 41; refine (l7Legs_is _ _).mono ?_; rintro e w' ⟨rfl, hw'⟩; have hw' := hw'.symm; subst hw'))
              go_meet
              exact ⟨rfl, rfl⟩
          by_cases k1 : K = 9
          · have hf : decide (0 < fLegs K) = true := by unfold fLegs; rw [if_neg (by omega), if_pos (by omega)]; rfl
            have dL : decide (HasLegs (K : Int)) = false := decide_eq_false (fun h => by unfold HasLegs at h; omega)
            have e9 : ((K : Int) == 9) = true := by rw [beq_iff_eq]; omega
            have e9' : (K == 9) = true := by rw [beq_iff_eq]; omega
            have hq := done.out true hf
            clear hf done k0 k1
            by_cases hn : 0 < R3.length
            · have n1 : decide (0 < R3.length) = true := decide_eq_true (by omega)
              have n2 : decide ((0 : Int) < (R3.length : Int)) = true := decide_eq_true (by omega)
              rw [n1] at hq
              replace hq : q3 = true := hq
              subst hq
              clear hn
              go_wp2_with (first | (go_at_call 39; refine (l7Named_is _ _).mono ?_; rintro e w' ⟨rfl, hw'⟩; have hw' := hw'.symm; subst hw') | (go_at_call 41; refine (l7Legs_is _ _).mono ?_; rintro e w' ⟨rfl, hw'⟩; have hw' := hw'.symm; subst hw'))
              go_meet
              exact ⟨rfl, rfl⟩
            · have n1 : decide (0 < R3.length) = false := decide_eq_false (by omega)
              have n2 : decide ((0 : Int) < (R3.length : Int)) = false := decide_eq_false (by omega)
              rw [n1] at hq
              replace hq : q3 = false := hq
              subst hq
              clear hn
              go_wp2_with (first | (go_at_call 39; refine (l7Named_is _ _).mono ?_; rintro e w' ⟨rfl, hw'⟩; have hw' := hw'.symm; subst hw') | (go_at_call 41; refine (l7Legs_is _ _).mono ?_; rintro e w' ⟨rfl, hw'⟩; have hw' := hw'.symm; subst hw'))
              go_meet
              exact ⟨rfl, rfl⟩
          have hf : decide (0 < fLegs K) = false := by unfold fLegs; rw [if_neg (by omega), if_neg (by omega)]; rfl
          have dL : decide (HasLegs (K : Int)) = false := decide_eq_false (fun h => by unfold HasLegs at h; omega)
          have e9 : ((K : Int) == 9) = false := by rw [beq_eq_false_iff_ne]; omega
          have e9' : (K == 9) = false := by rw [beq_eq_false_iff_ne]; omega
          have hq := done.out false hf
          clear hf done k0 k1
          replace hq : q3 = false := hq
          subst hq
          go_wp2_with (first | (go_at_call 39; refine (l7Named_is _ _).mono ?_; rintro e w' ⟨rfl, hw'⟩; have hw' := hw'.symm; subst hw') | (go_at_call 41; refine (l7Legs_is _ _).mono ?_; rintro e w' ⟨rfl, hw'⟩; have hw' := hw'.symm; subst hw'))
          go_meet
          exact ⟨rfl, rfl⟩
      case rest =>
      obtain ⟨hvv, hwx⟩ := hcut.out
      clear hcut
      subst hvv
      have hwx := hwx.symm
      subst hwx
      clear HQL3 y0
      go_upto_if 85 with fail
      go_cut [4] (fun u wx => ∃ z3 y3, Hid (SOp w wx rb ob ⟨(K : Int), z2, z1, z3, y3, noParty, 0, 0⟩ u (wd4 K l) ∧ ((decide (0 < fLegs K) = true → wd3 K l ≠ [] → LegsTold (hd (wd3 K l)) y3) ∧ (decide (0 < fLegs K) = false → y3 = []) ∧ y3.length ≤ 1048577)))
      case first =>
        as_aux_lemma =>
          cases q3 with
          | false =>
            have HNX : Hid (wd4 K l = R3) := by
              show wd4 K l = R3
              unfold wd4
              rw [HR3.out]
              exact nx_no HQ3.out.symm
            have HNO : Hid (decide (0 < fLegs K) = true → wd3 K l ≠ [] → False) := fun h1 h2 => h2 (HR3.out.trans (on_no HQ3.out.symm h1))
            clear HQ3 HR3
            go_wp2
            go_meet
            exact ⟨_, [], (show SOp w _ rb ob ⟨(K : Int), z2, z1, (.slice none 0 0), [], noParty, 0, 0⟩ _ (wd4 K l) from by rw [HNX.out]; exact HS2.out), (fun h1 h2 => (HNO.out h1 h2).elim), (fun _ => rfl), by simp⟩
          | true =>
            obtain ⟨hfl, x, r, hxr⟩ := on_yes HQ3.out.symm
            have HNX : Hid (wd4 K l = r) := by
              show wd4 K l = r
              unfold wd4 nx
              rw [HR3.out, hfl, hxr]
              rfl
            have HHD : Hid (hd (wd3 K l) = x) := by
              show hd (wd3 K l) = x
              rw [HR3.out, hxr]
              rfl
            have HFL : Hid (decide (0 < fLegs K) = true) := hfl
            have hxs : x.size ≤ 1048576 := HL.out x (mem_wd3 (by rw [HR3.out, hxr]; exact List.mem_cons_self))
            have hsx : SOp w W3x rb ob ⟨(K : Int), z2, z1, (.slice none 0 0), [], noParty, 0, 0⟩ (.slice ao3 R3.length c3) (x :: r) := by rw [← hxr]; exact HS2.out
            obtain ⟨g1, o1, cc, hv, hcc, hce⟩ := hsx.ws.head
            simp only [Value.slice.injEq] at hv
            obtain ⟨rfl, hvl, rfl⟩ := hv
            rw [hvl] at hsx ⊢
            have HSX : Hid _ := hsx
            have i0 : (0 : Int) < (r.length : Int) + 1 := by omega
            have i1 : (1 : Int) ≤ (r.length : Int) + 1 := by omega
            clear hsx hvl hxr hfl HQ3 HR3 HS2 hc3
            go_wp2_with fail
            refine (l11ReadLegs_any x _ hxs).mono ?_
            rintro e w5 ⟨vl, yl, rfl, hol, HLR, hb5⟩
            have HSY : Hid (SOp w w5 rb ob ⟨(K : Int), z2, z1, (.slice none 0 0), [], noParty, 0, 0⟩ (.slice (some ⟨g1, o1, none⟩) (r.length + 1) c3) (x :: r)) := HSX.out.below hb5
            have HOL : Hid (w5.ownsRow w.heap.size 3 1 vl yl.length (cellsI yl)) := own_base hol HSX.out.bel.size
            have hyl : yl.length ≤ 1048577 := by have := HLR.out.1; omega
            obtain ⟨vla, vlc, rfl, _⟩ := own_form hol
            clear hol hb5
            clear HSX
            have o5 := HSY.out.o
            have x5 := blk_cell o5 3 _ rfl
            have g5 := blk_free o5 3
            have H6 : Hid _ := HSY.out.store 3 (.slice vla yl.length vlc) ⟨(K : Int), z2, z1, (.slice vla yl.length vlc), yl, noParty, 0, 0⟩ rfl HOL.out
            clear o5 HSY
            by_cases hc : c3 = 1
            · subst hc
              have hr0 : r.length = 0 := by omega
              have hk9 := H6.out.words (H6.out.ws.take (some ⟨g1, o1, none⟩) 0 rfl (fun h => by omega))
              rw [hr0] at hk9
              have HK9 : Hid _ := hk9
              clear hk9 H6
              go_wp2
              go_meet
              exact ⟨_, yl, (by rw [HNX.out]; exact HK9.out), (fun _ _ => by rw [HHD.out]; exact HLR.out), (fun h => by rw [HFL.out] at h; cases h), hyl⟩
            · have hc1 : (c3 = 1) = False := eq_false hc
              clear hc
              go_wp2
              go_meet
              exact ⟨_, yl, (by rw [HNX.out]; exact H6.out.words (H6.out.ws.take _ _ (by first | rfl | omega) (fun h => by first | rfl | simp))), (fun _ _ => by rw [HHD.out]; exact HLR.out), (fun h => by rw [HFL.out] at h; cases h), hyl⟩
      case rest =>
      obtain ⟨z3, y3, HC3⟩ := hcut
      have HS3 : Hid (SOp w wc rb ob ⟨(K : Int), z2, z1, z3, y3, noParty, 0, 0⟩ u4 (wd4 K l)) := HC3.out.1
      have HE3 : Hid ((decide (0 < fLegs K) = true → wd3 K l ≠ [] → LegsTold (hd (wd3 K l)) y3) ∧ (decide (0 < fLegs K) = false → y3 = []) ∧ y3.length ≤ 1048577) := HC3.out.2
      clear HC3 HS2 HQ3 HR3 hc3
      generalize wc = W4x at HS3 ⊢
      obtain ⟨R4, hR⟩ : ∃ R, R = wd4 K l := ⟨_, rfl⟩
      rw [← hR] at HS3
      have HR4 : Hid (wd4 K l = R4) := hR.symm
      clear hR
      obtain ⟨ao4, c4, hu, hc4, hj1, hj2⟩ := HS3.out.ws
      clear hj1 hj2
      subst hu
      have y0 : W4x.cell? ⟨ob, 0, none⟩ = some (.int .i64 (K : Int)) := blk_cell HS3.out.o 0 _ rfl
      obtain ⟨q4, hq⟩ : ∃ q, q = (fParty K && !R4.isEmpty) := ⟨_, rfl⟩
      have HQ4 : Hid (q4 = (fParty K && !R4.isEmpty)) := hq
      rw [on_len] at hq
      have HQL4 : Hid (q4 = (fParty K && decide (0 < R4.length))) := hq
      clear hq
      go_upto_region 19 with fail
      go_cut [100] (fun v wx => Hid (v = .bool q4 ∧ wx = W4x))
      case first =>
        as_aux_lemma =>
          have done : Hid (∀ b : Bool, fParty K = b → q4 = (b && decide (0 < R4.length))) := fun b h => by rw [HQL4.out, h]
          clear HQ4 HQL4 HR4
          by_cases k0 : K = 1 ∨ K = 2 ∨ K = 3 ∨ K = 5
          · have hf : fParty K = true := by unfold fParty; exact decide_eq_true (by omega)
            have dL : decide (HasLegs (K : Int)) = true := decide_eq_true (by unfold HasLegs; omega)
            have hq := done.out true hf
            clear hf done k0
            by_cases hn : 0 < R4.length
            · have n1 : decide (0 < R4.length) = true := decide_eq_true (by omega)
              have n2 : decide ((0 : Int) < (R4.length : Int)) = true := decide_eq_true (by omega)
              rw [n1] at hq
              replace hq : q4 = true := hq
              subst hq
              clear hn
              go_wp2_with (first | (go_at_call 39; refine (l7Named_is _ _).mono ?_; rintro e w' ⟨rfl, hw'⟩; have hw' := hw'.symm; subst hw') | (go_at_call 41; refine (l7Legs_is _ _).mono ?_; rintro e w' ⟨rfl, hw'⟩; have hw' := hw'.symm; subst hw'))
              go_meet
              exact ⟨rfl, rfl⟩
            · have n1 : decide (0 < R4.length) = false := decide_eq_false (by omega)
              have n2 : decide ((0 : Int) < (R4.length : Int)) = false := decide_eq_false (by omega)
              rw [n1] at hq
              replace hq : q4 = false := hq
              subst hq
              clear hn
              go_wp2_with (first | (go_at_call 39; refine (l7Named_is _ _).mono ?_; rintro e w' ⟨rfl, hw'⟩; have hw' := hw'.symm; subst hw') | (go_at_call 41; refine (l7Legs_is _ _).mono ?_; rintro e w' ⟨rfl, hw'⟩; have hw' := hw'.symm; subst hw'))
              go_meet
              exact ⟨rfl, rfl⟩
          have hf : fParty K = false := by unfold fParty; exact decide_eq_false (by omega)
          have dL : decide (HasLegs (K : Int)) = false := decide_eq_false (fun h => by unfold HasLegs at h; omega)
          have hq := done.out false hf
          clear hf done k0
          replace hq : q4 = false := hq
          subst hq
          go_wp2_with (first | (go_at_call 39; refine (l7Named_is _ _).mono ?_; rintro e w' ⟨rfl, hw'⟩; have hw' := hw'.symm; subst hw') | (go_at_call 41; refine (l7Legs_is _ _).mono ?_; rintro e w' ⟨rfl, hw'⟩; have hw' := hw'.symm; subst hw'))
          go_meet
          exact ⟨rfl, rfl⟩
      case rest =>
      obtain ⟨hvv, hwx⟩ := hcut.out
      clear hcut
      subst hvv
      have hwx := hwx.symm
      subst hwx
      clear HQL4 y0
      go_upto_if 100 with fail
      go_cut [4] (fun u wx => ∃ z4, Hid (SOp w wx rb ob ⟨(K : Int), z2, z1, z3, y3, z4, 0, 0⟩ u (wd5 K l) ∧ ((fParty K = true → wd4 K l ≠ [] → z4 = readQ (hd (wd4 K l))) ∧ (fParty K = false → z4 = noParty))))
      case first =>
        as_aux_lemma =>
          cases q4 with
          | false =>
            have HNX : Hid (wd5 K l = R4) := by
              show wd5 K l = R4
              unfold wd5
              rw [HR4.out]
              exact nx_no HQ4.out.symm
            have HNO : Hid (fParty K = true → wd4 K l ≠ [] → False) := fun h1 h2 => h2 (HR4.out.trans (on_no HQ4.out.symm h1))
            clear HQ4 HR4
            go_wp2
            go_meet
            exact ⟨noParty, (show SOp w _ rb ob ⟨(K : Int), z2, z1, z3, y3, noParty, 0, 0⟩ _ (wd5 K l) from by rw [HNX.out]; exact HS3.out), (fun h1 h2 => (HNO.out h1 h2).elim), (fun _ => rfl)⟩
          | true =>
            obtain ⟨hfl, x, r, hxr⟩ := on_yes HQ4.out.symm
            have HNX : Hid (wd5 K l = r) := by
              show wd5 K l = r
              unfold wd5 nx
              rw [HR4.out, hfl, hxr]
              rfl
            have HHD : Hid (hd (wd4 K l) = x) := by
              show hd (wd4 K l) = x
              rw [HR4.out, hxr]
              rfl
            have HFL : Hid (fParty K = true) := hfl
            have hxs : x.size ≤ 1048576 := HL.out x (mem_wd4 (by rw [HR4.out, hxr]; exact List.mem_cons_self))
            have hsx : SOp w W4x rb ob ⟨(K : Int), z2, z1, z3, y3, noParty, 0, 0⟩ (.slice ao4 R4.length c4) (x :: r) := by rw [← hxr]; exact HS3.out
            obtain ⟨g1, o1, cc, hv, hcc, hce⟩ := hsx.ws.head
            simp only [Value.slice.injEq] at hv
            obtain ⟨rfl, hvl, rfl⟩ := hv
            rw [hvl] at hsx ⊢
            have HSX : Hid _ := hsx
            have i0 : (0 : Int) < (r.length : Int) + 1 := by omega
            have i1 : (1 : Int) ≤ (r.length : Int) + 1 := by omega
            clear hsx hvl hxr hfl HQ4 HR4 HS3 hc4
            go_wp2_with fail
            refine (l11ReadParty_any x _ (by omega)).mono ?_
            rintro e w5 ⟨rfl, hb5⟩
            have HSY : Hid (SOp w w5 rb ob ⟨(K : Int), z2, z1, z3, y3, noParty, 0, 0⟩ (.slice (some ⟨g1, o1, none⟩) (r.length + 1) c4) (x :: r)) := HSX.out.below hb5
            obtain ⟨z, hz⟩ : ∃ z, z = readQ x := ⟨_, rfl⟩
            rw [← hz]
            have HZ : Hid (readQ x = z) := hz.symm
            clear hb5 hz
            clear HSX
            have o5 := HSY.out.o
            have x0 := blk_cell o5 4 _ rfl
            have g0' := blk_free o5 4
            have x1 := blk_cell o5 5 _ rfl
            have g1' := blk_free o5 5
            have x2 := blk_cell o5 6 _ rfl
            have g2' := blk_free o5 6
            have x3 := blk_cell o5 7 _ rfl
            have g3' := blk_free o5 7
            have x4 := blk_cell o5 8 _ rfl
            have g4' := blk_free o5 8
            have x5 := blk_cell o5 9 _ rfl
            have g5' := blk_free o5 9
            have K0 := HSY.out.store 4 (.int .i64 z.pe) ⟨(K : Int), z2, z1, z3, y3, ⟨z.pe, 0, 0, 0, false, 0⟩, 0, 0⟩ rfl HSY.out.leg
            have K1 := K0.store 5 (.int .i64 z.len) ⟨(K : Int), z2, z1, z3, y3, ⟨z.pe, z.len, 0, 0, false, 0⟩, 0, 0⟩ rfl K0.leg
            have K2 := K1.store 6 (.int .i64 z.hei) ⟨(K : Int), z2, z1, z3, y3, ⟨z.pe, z.len, z.hei, 0, false, 0⟩, 0, 0⟩ rfl K1.leg
            have K3 := K2.store 7 (.int .i64 z.cl) ⟨(K : Int), z2, z1, z3, y3, ⟨z.pe, z.len, z.hei, z.cl, false, 0⟩, 0, 0⟩ rfl K2.leg
            have K4 := K3.store 8 (.bool z.all) ⟨(K : Int), z2, z1, z3, y3, ⟨z.pe, z.len, z.hei, z.cl, z.all, 0⟩, 0, 0⟩ rfl K3.leg
            have K5 := K4.store 9 (.int .i64 z.be) ⟨(K : Int), z2, z1, z3, y3, ⟨z.pe, z.len, z.hei, z.cl, z.all, z.be⟩, 0, 0⟩ rfl K4.leg
            have H6 : Hid _ := K5
            clear K0 K1 K2 K3 K4 K5 o5 HSY
            by_cases hc : c4 = 1
            · subst hc
              have hr0 : r.length = 0 := by omega
              have hk9 := H6.out.words (H6.out.ws.take (some ⟨g1, o1, none⟩) 0 rfl (fun h => by omega))
              rw [hr0] at hk9
              have HK9 : Hid _ := hk9
              clear hk9 H6
              go_wp2
              go_meet
              exact ⟨z, (by rw [HNX.out]; exact HK9.out), (fun _ _ => by rw [HHD.out, HZ.out]), (fun h => by rw [HFL.out] at h; cases h)⟩
            · have hc1 : (c4 = 1) = False := eq_false hc
              clear hc
              go_wp2
              go_meet
              exact ⟨z, (by rw [HNX.out]; exact H6.out.words (H6.out.ws.take _ _ (by first | rfl | omega) (fun h => by first | rfl | simp))), (fun _ _ => by rw [HHD.out, HZ.out]), (fun h => by rw [HFL.out] at h; cases h)⟩
      case rest =>
      obtain ⟨z4, HC4⟩ := hcut
      have HS4 : Hid (SOp w wc rb ob ⟨(K : Int), z2, z1, z3, y3, z4, 0, 0⟩ u4 (wd5 K l)) := HC4.out.1
      have HE4 : Hid ((fParty K = true → wd4 K l ≠ [] → z4 = readQ (hd (wd4 K l))) ∧ (fParty K = false → z4 = noParty)) := HC4.out.2
      clear HC4 HS3 HQ4 HR4 hc4
      generalize wc = W5x at HS4 ⊢
      obtain ⟨R5, hR⟩ : ∃ R, R = wd5 K l := ⟨_, rfl⟩
      rw [← hR] at HS4
      have HR5 : Hid (wd5 K l = R5) := hR.symm
      clear hR
      obtain ⟨ao5, c5, hu, hc5, hj1, hj2⟩ := HS4.out.ws
      clear hj1 hj2
      subst hu
      have y0 : W5x.cell? ⟨ob, 0, none⟩ = some (.int .i64 (K : Int)) := blk_cell HS4.out.o 0 _ rfl
      obtain ⟨q5, hq⟩ : ∃ q, q = (fUntil K && !R5.isEmpty) := ⟨_, rfl⟩
      have HQ5 : Hid (q5 = (fUntil K && !R5.isEmpty)) := hq
      rw [on_len] at hq
      have HQL5 : Hid (q5 = (fUntil K && decide (0 < R5.length))) := hq
      clear hq
      go_upto_region 22 with fail
      go_cut [115] (fun v wx => Hid (v = .bool q5 ∧ wx = W5x))
      case first =>
        as_aux_lemma =>
          have done : Hid (∀ b : Bool, fUntil K = b → q5 = (b && decide (0 < R5.length))) := fun b h => by rw [HQL5.out, h]
          clear HQ5 HQL5 HR5
          by_cases k0 : K = 2
          · have hf : fUntil K = true := by unfold fUntil; exact decide_eq_true (by omega)
            have e2 : ((K : Int) == 2) = true := by rw [beq_iff_eq]; omega
            have e2' : (K == 2) = true := by rw [beq_iff_eq]; omega
            have hq := done.out true hf
            clear hf done k0
            by_cases hn : 0 < R5.length
            · have n1 : decide (0 < R5.length) = true := decide_eq_true (by omega)
              have n2 : decide ((0 : Int) < (R5.length : Int)) = true := decide_eq_true (by omega)
              rw [n1] at hq
              replace hq : q5 = true := hq
              subst hq
              clear hn
              go_wp2_with (first | (go_at_call 39; refine (l7Named_is _ _).mono ?_; rintro e w' ⟨rfl, hw'⟩; have hw' := hw'.symm; subst hw') | (go_at_call 41; refine (l7Legs_is _ _).mono ?_; rintro e w' ⟨rfl, hw'⟩; have hw' := hw'.symm; subst hw'))
              go_meet
              exact ⟨rfl, rfl⟩
            · have n1 : decide (0 < R5.length) = false := decide_eq_false (by omega)
              have n2 : decide ((0 : Int) < (R5.length : Int)) = false := decide_eq_false (by omega)
              rw [n1] at hq
              replace hq : q5 = false := hq
              subst hq
              clear hn
              go_wp2_with (first | (go_at_call 39; refine (l7Named_is _ _).mono ?_; rintro e w' ⟨rfl, hw'⟩; have hw' := hw'.symm; subst hw') | (go_at_call 41; refine (l7Legs_is _ _).mono ?_; rintro e w' ⟨rfl, hw'⟩; have hw' := hw'.symm; subst hw'))
              go_meet
              exact ⟨rfl, rfl⟩
          have hf : fUntil K = false := by unfold fUntil; exact decide_eq_false (by omega)
          have e2 : ((K : Int) == 2) = false := by rw [beq_eq_false_iff_ne]; omega
          have e2' : (K == 2) = false := by rw [beq_eq_false_iff_ne]; omega
          have hq := done.out false hf
          clear hf done k0
          replace hq : q5 = false := hq
          subst hq
          go_wp2_with (first | (go_at_call 39; refine (l7Named_is _ _).mono ?_; rintro e w' ⟨rfl, hw'⟩; have hw' := hw'.symm; subst hw') | (go_at_call 41; refine (l7Legs_is _ _).mono ?_; rintro e w' ⟨rfl, hw'⟩; have hw' := hw'.symm; subst hw'))
          go_meet
          exact ⟨rfl, rfl⟩
      case rest =>
      obtain ⟨hvv, hwx⟩ := hcut.out
      clear hcut
      subst hvv
      have hwx := hwx.symm
      subst hwx
      clear HQL5 y0
      go_upto_if 115 with fail
      go_cut [4] (fun u wx => ∃ z5, Hid (SOp w wx rb ob ⟨(K : Int), z2, z1, z3, y3, z4, z5, 0⟩ u (wd6 K l) ∧ ((fUntil K = true → wd5 K l ≠ [] → z5 = numOf (hd (wd5 K l))) ∧ (fUntil K = false → z5 = 0))))
      case first =>
        as_aux_lemma =>
          cases q5 with
          | false =>
            have HNX : Hid (wd6 K l = R5) := by
              show wd6 K l = R5
              unfold wd6
              rw [HR5.out]
              exact nx_no HQ5.out.symm
            have HNO : Hid (fUntil K = true → wd5 K l ≠ [] → False) := fun h1 h2 => h2 (HR5.out.trans (on_no HQ5.out.symm h1))
            clear HQ5 HR5
            go_wp2
            go_meet
            exact ⟨0, (show SOp w _ rb ob ⟨(K : Int), z2, z1, z3, y3, z4, 0, 0⟩ _ (wd6 K l) from by rw [HNX.out]; exact HS4.out), (fun h1 h2 => (HNO.out h1 h2).elim), (fun _ => rfl)⟩
          | true =>
            obtain ⟨hfl, x, r, hxr⟩ := on_yes HQ5.out.symm
            have HNX : Hid (wd6 K l = r) := by
              show wd6 K l = r
              unfold wd6 nx
              rw [HR5.out, hfl, hxr]
              rfl
            have HHD : Hid (hd (wd5 K l) = x) := by
              show hd (wd5 K l) = x
              rw [HR5.out, hxr]
              rfl
            have HFL : Hid (fUntil K = true) := hfl
            have hsx : SOp w W5x rb ob ⟨(K : Int), z2, z1, z3, y3, z4, 0, 0⟩ (.slice ao5 R5.length c5) (x :: r) := by rw [← hxr]; exact HS4.out
            obtain ⟨g1, o1, cc, hv, hcc, hce⟩ := hsx.ws.head
            simp only [Value.slice.injEq] at hv
            obtain ⟨rfl, hvl, rfl⟩ := hv
            rw [hvl] at hsx ⊢
            have HSX : Hid _ := hsx
            have i0 : (0 : Int) < (r.length : Int) + 1 := by omega
            have i1 : (1 : Int) ≤ (r.length : Int) + 1 := by omega
            clear hsx hvl hxr hfl HQ5 HR5 HS4 hc5
            go_wp2_with fail
            refine (l11Number_any x _).mono ?_
            rintro e w5 ⟨rfl, hw5⟩
            have hw5 := hw5.symm
            subst hw5
            have HSY : Hid (SOp w W5x rb ob ⟨(K : Int), z2, z1, z3, y3, z4, 0, 0⟩ (.slice (some ⟨g1, o1, none⟩) (r.length + 1) c5) (x :: r)) := HSX.out
            clear HSX
            have o5 := HSY.out.o
            have x5 := blk_cell o5 10 _ rfl
            have g5 := blk_free o5 10
            have H6 : Hid _ := HSY.out.store 10 (.int .i64 (numOf x)) ⟨(K : Int), z2, z1, z3, y3, z4, (numOf x), 0⟩ rfl HSY.out.leg
            clear o5 HSY
            by_cases hc : c5 = 1
            · subst hc
              have hr0 : r.length = 0 := by omega
              have hk9 := H6.out.words (H6.out.ws.take (some ⟨g1, o1, none⟩) 0 rfl (fun h => by omega))
              rw [hr0] at hk9
              have HK9 : Hid _ := hk9
              clear hk9 H6
              go_wp2
              go_meet
              exact ⟨numOf x, (by rw [HNX.out]; exact HK9.out), (fun _ _ => by rw [HHD.out]), (fun h => by rw [HFL.out] at h; cases h)⟩
            · have hc1 : (c5 = 1) = False := eq_false hc
              clear hc
              go_wp2
              go_meet
              exact ⟨numOf x, (by rw [HNX.out]; exact H6.out.words (H6.out.ws.take _ _ (by first | rfl | omega) (fun h => by first | rfl | simp))), (fun _ _ => by rw [HHD.out]), (fun h => by rw [HFL.out] at h; cases h)⟩
      case rest =>
      obtain ⟨z5, HC5⟩ := hcut
      have HS5 : Hid (SOp w wc rb ob ⟨(K : Int), z2, z1, z3, y3, z4, z5, 0⟩ u4 (wd6 K l)) := HC5.out.1
      have HE5 : Hid ((fUntil K = true → wd5 K l ≠ [] → z5 = numOf (hd (wd5 K l))) ∧ (fUntil K = false → z5 = 0)) := HC5.out.2
      clear HC5 HS4 HQ5 HR5 hc5
      generalize wc = W6x at HS5 ⊢
      obtain ⟨R6, hR⟩ : ∃ R, R = wd6 K l := ⟨_, rfl⟩
      rw [← hR] at HS5
      have HR6 : Hid (wd6 K l = R6) := hR.symm
      clear hR
      obtain ⟨ao6, c6, hu, hc6, hj1, hj2⟩ := HS5.out.ws
      clear hj1 hj2
      subst hu
      have y0 : W6x.cell? ⟨ob, 0, none⟩ = some (.int .i64 (K : Int)) := blk_cell HS5.out.o 0 _ rfl
      obtain ⟨q6, hq⟩ : ∃ q, q = (fNow K && !R6.isEmpty) := ⟨_, rfl⟩
      have HQ6 : Hid (q6 = (fNow K && !R6.isEmpty)) := hq
      rw [on_len] at hq
      have HQL6 : Hid (q6 = (fNow K && decide (0 < R6.length))) := hq
      clear hq
      go_upto_region 25 with fail
      go_cut [135] (fun v wx => Hid (v = .bool q6 ∧ wx = W6x))
      case first =>
        as_aux_lemma =>
          have done : Hid (∀ b : Bool, fNow K = b → q6 = (b && decide (0 < R6.length))) := fun b h => by rw [HQL6.out, h]
          clear HQ6 HQL6 HR6
          by_cases k0 : K = 6
          · have hf : fNow K = true := by unfold fNow; exact decide_eq_true (by omega)
            have e6 : ((K : Int) == 6) = true := by rw [beq_iff_eq]; omega
            have e6' : (K == 6) = true := by rw [beq_iff_eq]; omega
            have hq := done.out true hf
            clear hf done k0
            by_cases hn : 0 < R6.length
            · have n1 : decide (0 < R6.length) = true := decide_eq_true (by omega)
              have n2 : decide ((0 : Int) < (R6.length : Int)) = true := decide_eq_true (by omega)
              rw [n1] at hq
              replace hq : q6 = true := hq
              subst hq
              clear hn
              go_wp2_with (first | (go_at_call 39; refine (l7Named_is _ _).mono ?_; rintro e w' ⟨rfl, hw'⟩; have hw' := hw'.symm; subst hw') | (go_at_call 41; refine (l7Legs_is _ _).mono ?_; rintro e w' ⟨rfl, hw'⟩; have hw' := hw'.symm; subst hw'))
              go_meet
              exact ⟨rfl, rfl⟩
            · have n1 : decide (0 < R6.length) = false := decide_eq_false (by omega)
              have n2 : decide ((0 : Int) < (R6.length : Int)) = false := decide_eq_false (by omega)
              rw [n1] at hq
              replace hq : q6 = false := hq
              subst hq
              clear hn
              go_wp2_with (first | (go_at_call 39; refine (l7Named_is _ _).mono ?_; rintro e w' ⟨rfl, hw'⟩; have hw' := hw'.symm; subst hw') | (go_at_call 41; refine (l7Legs_is _ _).mono ?_; rintro e w' ⟨rfl, hw'⟩; have hw' := hw'.symm; subst hw'))
              go_meet
              exact ⟨rfl, rfl⟩
          by_cases k1 : K = 8
          · have hf : fNow K = true := by unfold fNow; exact decide_eq_true (by omega)
            have e6 : ((K : Int) == 6) = false := by rw [beq_eq_false_iff_ne]; omega
            have e6' : (K == 6) = false := by rw [beq_eq_false_iff_ne]; omega
            have e8 : ((K : Int) == 8) = true := by rw [beq_iff_eq]; omega
            have e8' : (K == 8) = true := by rw [beq_iff_eq]; omega
            have hq := done.out true hf
            clear hf done k0 k1
            by_cases hn : 0 < R6.length
            · have n1 : decide (0 < R6.length) = true := decide_eq_true (by omega)
              have n2 : decide ((0 : Int) < (R6.length : Int)) = true := decide_eq_true (by omega)
              rw [n1] at hq
              replace hq : q6 = true := hq
              subst hq
              clear hn
              go_wp2_with (first | (go_at_call 39; refine (l7Named_is _ _).mono ?_; rintro e w' ⟨rfl, hw'⟩; have hw' := hw'.symm; subst hw') | (go_at_call 41; refine (l7Legs_is _ _).mono ?_; rintro e w' ⟨rfl, hw'⟩; have hw' := hw'.symm; subst hw'))
              go_meet
              exact ⟨rfl, rfl⟩
            · have n1 : decide (0 < R6.length) = false := decide_eq_false (by omega)
              have n2 : decide ((0 : Int) < (R6.length : Int)) = false := decide_eq_false (by omega)
              rw [n1] at hq
              replace hq : q6 = false := hq
              subst hq
              clear hn
              go_wp2_with (first | (go_at_call 39; refine (l7Named_is _ _).mono ?_; rintro e w' ⟨rfl, hw'⟩; have hw' := hw'.symm; subst hw') | (go_at_call 41; refine (l7Legs_is _ _).mono ?_; rintro e w' ⟨rfl, hw'⟩; have hw' := hw'.symm; subst hw'))
              go_meet
              exact ⟨rfl, rfl⟩
          have hf : fNow K = false := by unfold fNow; exact decide_eq_false (by omega)
          have e6 : ((K : Int) == 6) = false := by rw [beq_eq_false_iff_ne]; omega
          have e6' : (K == 6) = false := by rw [beq_eq_false_iff_ne]; omega
          have e8 : ((K : Int) == 8) = false := by rw [beq_eq_false_iff_ne]; omega
          have e8' : (K == 8) = false := by rw [beq_eq_false_iff_ne]; omega
          have hq := done.out false hf
          clear hf done k0 k1
          replace hq : q6 = false := hq
          subst hq
          go_wp2_with (first | (go_at_call 39; refine (l7Named_is _ _).mono ?_; rintro e w' ⟨rfl, hw'⟩; have hw' := hw'.symm; subst hw') | (go_at_call 41; refine (l7Legs_is _ _).mono ?_; rintro e w' ⟨rfl, hw'⟩; have hw' := hw'.symm; subst hw'))
          go_meet
          exact ⟨rfl, rfl⟩
      case rest =>
      obtain ⟨hvv, hwx⟩ := hcut.out
      clear hcut
      subst hvv
      have hwx := hwx.symm
      subst hwx
      clear HQL6 y0
      go_upto_if 135 with fail
      go_cut [4] (fun u wx => ∃ z6, Hid (SOp w wx rb ob ⟨(K : Int), z2, z1, z3, y3, z4, z5, z6⟩ u (wd7 K l) ∧ ((fNow K = true → wd6 K l ≠ [] → z6 = numOf (hd (wd6 K l))) ∧ (fNow K = false → z6 = 0))))
      case first =>
        as_aux_lemma =>
          cases q6 with
          | false =>
            have HNX : Hid (wd7 K l = R6) := by
              show wd7 K l = R6
              unfold wd7
              rw [HR6.out]
              exact nx_no HQ6.out.symm
            have HNO : Hid (fNow K = true → wd6 K l ≠ [] → False) := fun h1 h2 => h2 (HR6.out.trans (on_no HQ6.out.symm h1))
            clear HQ6 HR6
            go_wp2
            go_meet
            exact ⟨0, (show SOp w _ rb ob ⟨(K : Int), z2, z1, z3, y3, z4, z5, 0⟩ _ (wd7 K l) from by rw [HNX.out]; exact HS5.out), (fun h1 h2 => (HNO.out h1 h2).elim), (fun _ => rfl)⟩
          | true =>
            obtain ⟨hfl, x, r, hxr⟩ := on_yes HQ6.out.symm
            have HNX : Hid (wd7 K l = r) := by
              show wd7 K l = r
              unfold wd7 nx
              rw [HR6.out, hfl, hxr]
              rfl
            have HHD : Hid (hd (wd6 K l) = x) := by
              show hd (wd6 K l) = x
              rw [HR6.out, hxr]
              rfl
            have HFL : Hid (fNow K = true) := hfl
            have hsx : SOp w W6x rb ob ⟨(K : Int), z2, z1, z3, y3, z4, z5, 0⟩ (.slice ao6 R6.length c6) (x :: r) := by rw [← hxr]; exact HS5.out
            obtain ⟨g1, o1, cc, hv, hcc, hce⟩ := hsx.ws.head
            simp only [Value.slice.injEq] at hv
            obtain ⟨rfl, hvl, rfl⟩ := hv
            rw [hvl] at hsx ⊢
            have HSX : Hid _ := hsx
            have i0 : (0 : Int) < (r.length : Int) + 1 := by omega
            have i1 : (1 : Int) ≤ (r.length : Int) + 1 := by omega
            clear hsx hvl hxr hfl HQ6 HR6 HS5 hc6
            go_wp2_with fail
            refine (l11Number_any x _).mono ?_
            rintro e w5 ⟨rfl, hw5⟩
            have hw5 := hw5.symm
            subst hw5
            have HSY : Hid (SOp w W6x rb ob ⟨(K : Int), z2, z1, z3, y3, z4, z5, 0⟩ (.slice (some ⟨g1, o1, none⟩) (r.length + 1) c6) (x :: r)) := HSX.out
            clear HSX
            have o5 := HSY.out.o
            have x5 := blk_cell o5 11 _ rfl
            have g5 := blk_free o5 11
            have H6 : Hid _ := HSY.out.store 11 (.int .i64 (numOf x)) ⟨(K : Int), z2, z1, z3, y3, z4, z5, (numOf x)⟩ rfl HSY.out.leg
            clear o5 HSY
            by_cases hc : c6 = 1
            · subst hc
              have hr0 : r.length = 0 := by omega
              have hk9 := H6.out.words (H6.out.ws.take (some ⟨g1, o1, none⟩) 0 rfl (fun h => by omega))
              rw [hr0] at hk9
              have HK9 : Hid _ := hk9
              clear hk9 H6
              go_wp2
              go_meet
              exact ⟨numOf x, (by rw [HNX.out]; exact HK9.out), (fun _ _ => by rw [HHD.out]), (fun h => by rw [HFL.out] at h; cases h)⟩
            · have hc1 : (c6 = 1) = False := eq_false hc
              clear hc
              go_wp2
              go_meet
              exact ⟨numOf x, (by rw [HNX.out]; exact H6.out.words (H6.out.ws.take _ _ (by first | rfl | omega) (fun h => by first | rfl | simp))), (fun _ _ => by rw [HHD.out]), (fun h => by rw [HFL.out] at h; cases h)⟩
      case rest =>
      obtain ⟨z6, HC6⟩ := hcut
      have HS6 : Hid (SOp w wc rb ob ⟨(K : Int), z2, z1, z3, y3, z4, z5, z6⟩ u4 (wd7 K l)) := HC6.out.1
      have HE6 : Hid ((fNow K = true → wd6 K l ≠ [] → z6 = numOf (hd (wd6 K l))) ∧ (fNow K = false → z6 = 0)) := HC6.out.2
      clear HC6 HS5 HQ6 HR6 hc6
      generalize wc = W7x at HS6 ⊢
      have HRD : Hid (SRead l ⟨(K : Int), z2, z1, z3, y3, z4, z5, z6⟩) := by
        constructor
        · rw [HK.out]
        · rw [HK.out]; exact HE1.out
        · rw [HK.out]; exact ⟨HE2.out.1, HE2.out.2.1⟩
        · rw [HK.out]; exact ⟨HE3.out.1, HE3.out.2.1⟩
        · rw [HK.out]; exact HE4.out
        · rw [HK.out]; exact HE5.out
        · rw [HK.out]; exact HE6.out
      have HLF : Hid ((OpR.L ⟨(K : Int), z2, z1, z3, y3, z4, z5, z6⟩).length ≤ 1048577) := HE3.out.2.2
      have HOF : Hid ((OpR.own ⟨(K : Int), z2, z1, z3, y3, z4, z5, z6⟩).size ≤ 1048576) := HE2.out.2.2
      clear HE1 HE2 HE3 HE4 HE5 HE6
      obtain ⟨x, hx⟩ : ∃ x : OpR, x = ⟨(K : Int), z2, z1, z3, y3, z4, z5, z6⟩ := ⟨_, rfl⟩
      rw [← hx] at HS6 HRD HLF HOF
      clear hx HK
      have HBK : Hid (∀ z, HasText z → opT z = s → SameOp x.d z) := fun z hz e => sread_back hz (by rw [e]; exact HPT.out) HRD.out
      clear HRD HPT HL
      obtain ⟨za, zc, hv, hvc, hvm, hvn⟩ := own_form HS6.out.leg
      have HV : Hid (x.v = .slice za x.L.length zc) := hv
      have ecs : x.cs = #[.int .i64 x.kind, .string x.own, .int .i64 x.name, .slice za x.L.length zc, .int .i64 x.p.pe, .int .i64 x.p.len, .int .i64 x.p.hei, .int .i64 x.p.cl, .bool x.p.all, .int .i64 x.p.be, .int .i64 x.unt, .int .i64 x.now] := by unfold OpR.cs; rw [hv]
      have HECS : Hid (x.cs = #[.int .i64 x.kind, .string x.own, .int .i64 x.name, .slice za x.L.length zc, .int .i64 x.p.pe, .int .i64 x.p.len, .int .i64 x.p.hei, .int .i64 x.p.cl, .bool x.p.all, .int .i64 x.p.be, .int .i64 x.unt, .int .i64 x.now]) := ecs
      have b3 := HS6.out.o
      rw [ecs] at b3
      have hr3 := HS6.out.r
      have hB3 := HS6.out.bel
      have HO3 : Hid (W7x.ownsRow w.heap.size 3 1 x.v x.L.length (cellsI x.L)) := HS6.out.leg
      have hlo := HS6.out.lo
      have HIS : Hid (∀ w', Below W7x.heap.size W7x w' → OpD.Is w' [.int .i64 x.kind, .string x.own, .int .i64 x.name, .slice za x.L.length zc, .int .i64 x.p.pe, .int .i64 x.p.len, .int .i64 x.p.hei, .int .i64 x.p.cl, .bool x.p.all, .int .i64 x.p.be, .int .i64 x.unt, .int .i64 x.now] x.d) := fun w' hb => ⟨za, zc, rfl, own_ints (by have h := own_below hb HO3.out; rw [HV.out] at h; exact h), ⟨hvc, hvm, hvn⟩⟩
      clear hv ecs HS6
      have y0 := blk_cell b3 0 _ rfl
      have y1 := blk_cell b3 1 _ rfl
      have y2 := blk_cell b3 2 _ rfl
      have y3 := blk_cell b3 3 _ rfl
      have y4 := blk_cell b3 4 _ rfl
      have y5 := blk_cell b3 5 _ rfl
      have y6 := blk_cell b3 6 _ rfl
      have y7 := blk_cell b3 7 _ rfl
      have y8 := blk_cell b3 8 _ rfl
      have y9 := blk_cell b3 9 _ rfl
      have y10 := blk_cell b3 10 _ rfl
      have y11 := blk_cell b3 11 _ rfl
      have cg := specOp_any [.int .i64 x.kind, .string x.own, .int .i64 x.name, .slice za x.L.length zc, .int .i64 x.p.pe, .int .i64 x.p.len, .int .i64 x.p.hei, .int .i64 x.p.cl, .bool x.p.all, .int .i64 x.p.be, .int .i64 x.unt, .int .i64 x.now] x.d W7x (by have h := HOF.out; show x.own.size ≤ _; omega) (HIS.out _ (Below.refl _ _))
      generalize hG : decide (OpOk x.d) = G at cg
      have HG : Hid (decide (OpOk x.d) = G) := hG
      clear hG
      go_wp2_with fail
      refine cg.mono ?_
      clear cg
      rintro e w4 ⟨rfl, hb4⟩
      have hB4 := after hB3 hb4
      have hr4 := blk_below hr3 hb4
      have b4 := blk_below b3 hb4
      have HO4 : Hid (w4.ownsRow w.heap.size 3 1 x.v x.L.length (cellsI x.L)) := own_below hb4 HO3.out
      have HIS4 : Hid (OpD.Is w4 [.int .i64 x.kind, .string x.own, .int .i64 x.name, .slice za x.L.length zc, .int .i64 x.p.pe, .int .i64 x.p.len, .int .i64 x.p.hei, .int .i64 x.p.cl, .bool x.p.all, .int .i64 x.p.be, .int .i64 x.unt, .int .i64 x.now] x.d) := HIS.out _ hb4
      clear y0 y1 y2 y3 y4 y5 y6 y7 y8 y9 y10 y11 hB3 hr3 b3 hb4 HO3 HIS
      cases G with
      | false =>
        have HNO : Hid (¬ (HasText x.d ∧ opT x.d = s)) := fun h => of_decide_eq_false HG.out h.1.1
        have rF := box_12 hr4 (.int .i64 0) (.string ⟨#[]⟩) (.int .i64 0) (.slice none 0 0) (.int .i64 0) (.int .i64 0) (.int .i64 0) (.int .i64 0) (.bool false) (.int .i64 0) (.int .i64 0) (.int .i64 0)
        have kF := keep_12 w4 rb (.int .i64 0) (.string ⟨#[]⟩) (.int .i64 0) (.slice none 0 0) (.int .i64 0) (.int .i64 0) (.int .i64 0) (.int .i64 0) (.bool false) (.int .i64 0) (.int .i64 0) (.int .i64 0)
        have HFN : Hid (ReadOut s w _ noOp false) := ⟨⟨x, .inr ⟨rfl, HNO.out, rfl⟩, HBK.out⟩, World.ownsRow_nil _ _ _ _, Nat.zero_le _, Kept.below hB4 hB4.size kF (fun k e => by have e : k = rb := e; omega)⟩
        have s0 := blk_cell hr4 0 _ rfl
        have g0 := blk_free hr4 0
        have s1 := blk_cell hr4 1 _ rfl
        have g1 := blk_free hr4 1
        have s2 := blk_cell hr4 2 _ rfl
        have g2 := blk_free hr4 2
        have s3 := blk_cell hr4 3 _ rfl
        have g3 := blk_free hr4 3
        have s4 := blk_cell hr4 4 _ rfl
        have g4 := blk_free hr4 4
        have s5 := blk_cell hr4 5 _ rfl
        have g5 := blk_free hr4 5
        have s6 := blk_cell hr4 6 _ rfl
        have g6 := blk_free hr4 6
        have s7 := blk_cell hr4 7 _ rfl
        have g7 := blk_free hr4 7
        have s8 := blk_cell hr4 8 _ rfl
        have g8 := blk_free hr4 8
        have s9 := blk_cell hr4 9 _ rfl
        have g9 := blk_free hr4 9
        have s10 := blk_cell hr4 10 _ rfl
        have g10 := blk_free hr4 10
        have s11 := blk_cell hr4 11 _ rfl
        have g11 := blk_free hr4 11
        clear kF
        go_wp2
        have t0 := blk_cell rF 0 _ rfl
        have t1 := blk_cell rF 1 _ rfl
        have t2 := blk_cell rF 2 _ rfl
        have t3 := blk_cell rF 3 _ rfl
        have t4 := blk_cell rF 4 _ rfl
        have t5 := blk_cell rF 5 _ rfl
        have t6 := blk_cell rF 6 _ rfl
        have t7 := blk_cell rF 7 _ rfl
        have t8 := blk_cell rF 8 _ rfl
        have t9 := blk_cell rF 9 _ rfl
        have t10 := blk_cell rF 10 _ rfl
        have t11 := blk_cell rF 11 _ rfl
        refine bodyPost_ret (v := .tuple #[.agg #[.int .i64 0, .string ⟨#[]⟩, .int .i64 0, .slice none 0 0, .int .i64 0, .int .i64 0, .int .i64 0, .int .i64 0, .bool false, .int .i64 0, .int .i64 0, .int .i64 0], .bool false]) (by simp [results, Tryd.results12, go_sem, t0, t1, t2, t3, t4, t5, t6, t7, t8, t9, t10, t11]) rfl ?_
        exact ⟨noOp, false, rfl, HFN.out⟩
      | true =>
      have y0 := blk_cell b4 0 _ rfl
      have y1 := blk_cell b4 1 _ rfl
      have y2 := blk_cell b4 2 _ rfl
      have y3 := blk_cell b4 3 _ rfl
      have y4 := blk_cell b4 4 _ rfl
      have y5 := blk_cell b4 5 _ rfl
      have y6 := blk_cell b4 6 _ rfl
      have y7 := blk_cell b4 7 _ rfl
      have y8 := blk_cell b4 8 _ rfl
      have y9 := blk_cell b4 9 _ rfl
      have y10 := blk_cell b4 10 _ rfl
      have y11 := blk_cell b4 11 _ rfl
      have ct := specText_any [.int .i64 x.kind, .string x.own, .int .i64 x.name, .slice za x.L.length zc, .int .i64 x.p.pe, .int .i64 x.p.len, .int .i64 x.p.hei, .int .i64 x.p.cl, .bool x.p.all, .int .i64 x.p.be, .int .i64 x.unt, .int .i64 x.now] x.d w4 (by have h := HOF.out; show x.own.size ≤ _; omega) HIS4.out (by have h := HLF.out; show x.L.length ≤ _; omega)
      generalize hT : textOf x.d = T at ct
      generalize hH : hasT x.d = H at ct
      have HTH : Hid (textOf x.d = T ∧ hasT x.d = H) := ⟨hT, hH⟩
      clear hT hH
      go_wp2_with fail
      refine ct.mono ?_
      clear ct
      rintro e w5 ⟨rfl, hb5⟩
      have hB5 := after hB4 hb5
      have hr5 := blk_below hr4 hb5
      have b5 := blk_below b4 hb5
      have HO5 : Hid (w5.ownsRow w.heap.size 3 1 x.v x.L.length (cellsI x.L)) := own_below hb5 HO4.out
      clear y0 y1 y2 y3 y4 y5 y6 y7 y8 y9 y10 y11 hB4 hr4 b4 hb5 HO4 HIS4
      have s0 := blk_cell hr5 0 _ rfl
      have g0 := blk_free hr5 0
      have s1 := blk_cell hr5 1 _ rfl
      have g1 := blk_free hr5 1
      have s2 := blk_cell hr5 2 _ rfl
      have g2 := blk_free hr5 2
      have s3 := blk_cell hr5 3 _ rfl
      have g3 := blk_free hr5 3
      have s4 := blk_cell hr5 4 _ rfl
      have g4 := blk_free hr5 4
      have s5 := blk_cell hr5 5 _ rfl
      have g5 := blk_free hr5 5
      have s6 := blk_cell hr5 6 _ rfl
      have g6 := blk_free hr5 6
      have s7 := blk_cell hr5 7 _ rfl
      have g7 := blk_free hr5 7
      have s8 := blk_cell hr5 8 _ rfl
      have g8 := blk_free hr5 8
      have s9 := blk_cell hr5 9 _ rfl
      have g9 := blk_free hr5 9
      have s10 := blk_cell hr5 10 _ rfl
      have g10 := blk_free hr5 10
      have s11 := blk_cell hr5 11 _ rfl
      have g11 := blk_free hr5 11
      by_cases hok : H = true ∧ T = s
      case neg =>
        have HNO : Hid (¬ (HasText x.d ∧ opT x.d = s)) := fun h => hok (by
          have h1 := textOf_yes h.1
          rw [HTH.out.1, HTH.out.2] at h1
          exact ⟨h1.2, by rw [h1.1]; exact h.2⟩)
        have rF := box_12 hr5 (.int .i64 0) (.string ⟨#[]⟩) (.int .i64 0) (.slice none 0 0) (.int .i64 0) (.int .i64 0) (.int .i64 0) (.int .i64 0) (.bool false) (.int .i64 0) (.int .i64 0) (.int .i64 0)
        have kF := keep_12 w5 rb (.int .i64 0) (.string ⟨#[]⟩) (.int .i64 0) (.slice none 0 0) (.int .i64 0) (.int .i64 0) (.int .i64 0) (.int .i64 0) (.bool false) (.int .i64 0) (.int .i64 0) (.int .i64 0)
        have HFN : Hid (ReadOut s w _ noOp false) := ⟨⟨x, .inr ⟨rfl, HNO.out, rfl⟩, HBK.out⟩, World.ownsRow_nil _ _ _ _, Nat.zero_le _, Kept.below hB5 hB5.size kF (fun k e => by have e : k = rb := e; omega)⟩
        clear kF
        go_upto_region 31 with fail
        go_cut [158] (fun v wx => v = .bool true ∧ wx = w5)
        case first =>
          cases H with
          | false =>
            go_wp2
            go_meet
            exact ⟨rfl, rfl⟩
          | true =>
            have hT : T ≠ s := fun e => hok ⟨rfl, e⟩
            have et : (T.toList == s.toList) = false := bytes_ne.2 hT
            clear hT hok
            go_wp2
            go_meet
            exact ⟨rfl, rfl⟩
        case rest =>
        obtain ⟨rfl, hwx⟩ := hcut
        have hwx := hwx.symm
        subst hwx
        clear hok
        go_wp2
        have t0 := blk_cell rF 0 _ rfl
        have t1 := blk_cell rF 1 _ rfl
        have t2 := blk_cell rF 2 _ rfl
        have t3 := blk_cell rF 3 _ rfl
        have t4 := blk_cell rF 4 _ rfl
        have t5 := blk_cell rF 5 _ rfl
        have t6 := blk_cell rF 6 _ rfl
        have t7 := blk_cell rF 7 _ rfl
        have t8 := blk_cell rF 8 _ rfl
        have t9 := blk_cell rF 9 _ rfl
        have t10 := blk_cell rF 10 _ rfl
        have t11 := blk_cell rF 11 _ rfl
        refine bodyPost_ret (v := .tuple #[.agg #[.int .i64 0, .string ⟨#[]⟩, .int .i64 0, .slice none 0 0, .int .i64 0, .int .i64 0, .int .i64 0, .int .i64 0, .bool false, .int .i64 0, .int .i64 0, .int .i64 0], .bool false]) (by simp [results, Tryd.results12, go_sem, t0, t1, t2, t3, t4, t5, t6, t7, t8, t9, t10, t11]) rfl ?_
        exact ⟨noOp, false, rfl, HFN.out⟩
      case pos =>
        obtain ⟨rfl, rfl⟩ := hok
        have HYES : Hid (HasText x.d ∧ opT x.d = T) := by
          have h1 : HasText x.d := (hasT_iff x.d).1 HTH.out.2
          have h2 := (textOf_yes h1).1
          rw [HTH.out.1] at h2
          exact ⟨h1, h2.symm⟩
        have et : (T.toList == T.toList) = true := by simp
        have p0 := blk_cell b5 0 _ rfl
        have p1 := blk_cell b5 1 _ rfl
        have p2 := blk_cell b5 2 _ rfl
        have p3 := blk_cell b5 3 _ rfl
        have p4 := blk_cell b5 4 _ rfl
        have p5 := blk_cell b5 5 _ rfl
        have p6 := blk_cell b5 6 _ rfl
        have p7 := blk_cell b5 7 _ rfl
        have p8 := blk_cell b5 8 _ rfl
        have p9 := blk_cell b5 9 _ rfl
        have p10 := blk_cell b5 10 _ rfl
        have p11 := blk_cell b5 11 _ rfl
        have rF := box_12 hr5 (.int .i64 x.kind) (.string x.own) (.int .i64 x.name) (.slice za x.L.length zc) (.int .i64 x.p.pe) (.int .i64 x.p.len) (.int .i64 x.p.hei) (.int .i64 x.p.cl) (.bool x.p.all) (.int .i64 x.p.be) (.int .i64 x.unt) (.int .i64 x.now)
        have kF := keep_12 w5 rb (.int .i64 x.kind) (.string x.own) (.int .i64 x.name) (.slice za x.L.length zc) (.int .i64 x.p.pe) (.int .i64 x.p.len) (.int .i64 x.p.hei) (.int .i64 x.p.cl) (.bool x.p.all) (.int .i64 x.p.be) (.int .i64 x.unt) (.int .i64 x.now)
        have HFY : Hid (ReadOut T w _ x true) := ⟨⟨x, .inl ⟨rfl, HYES.out.1, HYES.out.2, rfl⟩, HBK.out⟩, kF.own HO5.out (own_notT HO5.out hr5 (by decide)), by have := HLF.out; omega, Kept.below hB5 hB5.size kF (fun k e => by have e : k = rb := e; omega)⟩
        clear kF
        go_wp2
        have t0 := blk_cell rF 0 _ rfl
        have t1 := blk_cell rF 1 _ rfl
        have t2 := blk_cell rF 2 _ rfl
        have t3 := blk_cell rF 3 _ rfl
        have t4 := blk_cell rF 4 _ rfl
        have t5 := blk_cell rF 5 _ rfl
        have t6 := blk_cell rF 6 _ rfl
        have t7 := blk_cell rF 7 _ rfl
        have t8 := blk_cell rF 8 _ rfl
        have t9 := blk_cell rF 9 _ rfl
        have t10 := blk_cell rF 10 _ rfl
        have t11 := blk_cell rF 11 _ rfl
        refine bodyPost_ret (v := .tuple #[.agg #[.int .i64 x.kind, .string x.own, .int .i64 x.name, .slice za x.L.length zc, .int .i64 x.p.pe, .int .i64 x.p.len, .int .i64 x.p.hei, .int .i64 x.p.cl, .bool x.p.all, .int .i64 x.p.be, .int .i64 x.unt, .int .i64 x.now], .bool true]) (by simp [results, Tryd.results12, go_sem, t0, t1, t2, t3, t4, t5, t6, t7, t8, t9, t10, t11]) rfl ?_
        exact ⟨x, true, by rw [HECS.out], HFY.out⟩

end Go.Proofs.YtfbooamjddnagaaDoor

namespace Go.Proofs.YtfbooamjddnagaaDoor
open Go.RowKit

set_option maxHeartbeats 400000 in
theorem markIntS_own (ao : Option Addr) (n c base : Nat) (F : Nat → Int) (k0 : Int) (w : World) (hn : n ≤ 4194304) (h0 : 0 ≤ k0) (h1 : k0 ≤ 1000000000000000) (ho : w.ownsRow base 3 1 (.slice ao n c) n (intList F n)) :
    Calls Tryd.prog 46 #[.slice ao n c, .int .i64 k0] w fun e w' => e = .returned (.int .i64 (k0 + n)) ∧ w'.ownsRow base 3 1 (.slice ao n c) n (intList (fun j => k0 + j) n) ∧ Kept w w' (fun b => ∃ g, ao = some ⟨g, 0, none⟩ ∧ b = g) := by
  go_enter Tryd.func46, Tryd.ntmps46
  go_wp2
  go_loopw [1, 5] (fun q i wr => ∃ t : Nat, t ≤ n ∧ i = .int .i64 t ∧ q = .int .i64 (k0 + t) ∧ wr.ownsRow base 3 1 (.slice ao n c) n ((List.range n).map (fun j => .int .i64 (if j < t then k0 + j else F j))) ∧ Kept w wr (fun b => ∃ g, ao = some ⟨g, 0, none⟩ ∧ b = g)) (fun _ i _ => n - (intOf i).toNat)
  case atStart => exact ⟨0, Nat.zero_le _, rfl, by simp, own_congr ho (by intro i _; simp), Kept.refl _ _⟩
  case round =>
    obtain ⟨t, ht, rfl, rfl, hown, hk⟩ := hrel
    by_cases hlt : t < n
    · obtain ⟨g, rfl, hg1, hg2⟩ := own_addr hown (by omega)
      have hc := own_cell hown t (by omega) (by omega)
      have hf := hown.frozenAt t
      go_wp2
      go_roundw
      case rel =>
        refine ⟨t + 1, by omega, by go_num, by go_num, ?_, hk.set ⟨g, rfl, rfl⟩ _⟩
        refine own_congr (own_store hown t _) (fun i _ => ?_)
        by_cases e : i = t
        · subst e; simp
        · simp only [if_neg e]
          by_cases e2 : i < t
          · rw [if_pos e2, if_pos (by omega)]
          · rw [if_neg e2, if_neg (by omega)]
      case measure => simp [intOf]; omega
    · have : t = n := by omega
      subst this
      go_wp2
      go_ret
      exact ⟨rfl, own_congr hown (by intro i hi; simp [hi]), hk⟩

set_option maxHeartbeats 400000 in
theorem heldIntS_yes (ao : Option Addr) (n c : Nat) (k0 : Int) (w : World) (hn : n ≤ 4194304) (h0 : 0 ≤ k0) (h1 : k0 ≤ 1000000000000000) (hz : IntsAt w ao n (fun j => k0 + j)) :
    Calls Tryd.prog 47 #[.slice ao n c, .int .i64 k0] w fun e w' => e = .returned (.int .i64 (k0 + n)) ∧ w' = w := by
  go_enter Tryd.func47, Tryd.ntmps47
  go_wp2
  go_loop [1, 5] (fun q i => ∃ t : Nat, t ≤ n ∧ i = .int .i64 t ∧ q = .int .i64 (k0 + t)) (fun _ i => n - (intOf i).toNat)
  case atStart => exact ⟨0, Nat.zero_le _, rfl, by simp⟩
  case round =>
    obtain ⟨t, ht, rfl, rfl⟩ := hrel
    by_cases hlt : t < n
    · obtain ⟨b, off, rfl, hc⟩ := hz t hlt
      go_wp2
      go_round
      case rel => exact ⟨t + 1, by omega, by go_num, by go_num⟩
      case measure => simp [intOf]; omega
    · have : t = n := by omega
      subst this
      go_wp2
      go_ret
      exact ⟨rfl, rfl⟩

end Go.Proofs.YtfbooamjddnagaaDoor
