/-
  OWN TEXT: SettleI.
-/
import Derived.Test.YtogbaoggebghdaaB20
import Derived.Test.YtogbaoggebghdaaB22
namespace Go.Proofs.Ytogbaoggebghdaa
open Go.RowKit Classical Go.MapKept Go.ChangeMaps

theorem shut_same {c : ClkD} {b : Bool} (h : c.opn = b) : c.shut b = c := by subst h; rfl
theorem toldTo_is {S : Nat → ClkD} {O : ByteArray → Prop} {k i : Nat} (h : i < k) (b : Bool) (hb : b = true ↔ O (S i).nam) : toldTo S O k i = (S i).shut b := by
  rw [toldTo_lt S O h]
  congr 1
  rw [Bool.eq_iff_iff, decide_eq_true_eq, hb]
theorem ClerksOk.one {N : Nat} {S : Nat → ClkD} (h : ClerksOk N S) {i j : Nat} (hi : i < N) (hj : j < N) (e : (S i).nam = (S j).nam) : i = j := by
  rcases Nat.lt_trichotomy i j with f | f | f
  · exact absurd (e ▸ h.lt f hj) (textLt.irrefl _)
  · exact f
  · exact absurd (e ▸ h.lt f hi) (textLt.irrefl _)
theorem openIn_at {N : Nat} {S : Nat → ClkD} (h : ClerksOk N S) {i : Nat} (hi : i < N) : openIn S N (S i).nam ↔ (S i).opn = true := by
  constructor
  · rintro ⟨j, hj, h1, h2⟩
    rw [h.one hi hj h2]
    exact h1
  · exact fun h1 => ⟨i, hi, h1, rfl⟩
theorem told_same {N : Nat} {S : Nat → ClkD} (h : ClerksOk N S) : ∀ i, i < N → toldTo S (openIn S N) N i = S i := by
  intro i hi
  rw [toldTo_is hi (S i).opn (openIn_at h hi).symm]
  exact shut_same rfl
theorem ClerksOk.up {N : Nat} {S : Nat → ClkD} (h : ClerksOk N S) : NamesUp N S := fun _ _ hij hj => h.lt hij hj
theorem ClerksOk.atC {N : Nat} {S : Nat → ClkD} (h : ClerksOk N S) {k : Nat} (hk : k < N) : AtC N S (S k).nam k := Or.inl ⟨k, hk, rfl, rfl, fun j hj e => by have := h.one (by omega) hk e; omega⟩
theorem told_put {N : Nat} {S : Nat → ClkD} {a : AnsD} (h : ClerksOk N S) {k : Nat} (hk : k < N) : ∀ i, i < N → toldTo (putC S k ((S k).told a)) (fun s => openIn S N s ∧ s ≠ (S k).nam) N i = putC S k (((S k).shut false).told a) i := by
  intro i hi
  by_cases e : i = k
  · subst e
    rw [toldTo_is hi false (by rw [putC_at]; exact ⟨fun h => (by cases h), fun h => absurd rfl h.2⟩), putC_at, putC_at]
    rfl
  · rw [toldTo_is hi (S i).opn (by rw [putC_ne _ _ _ e, openIn_at h hi]; exact ⟨fun h1 => ⟨h1, fun h2 => e (h.one hi hk h2)⟩, fun h1 => h1.1⟩), putC_ne _ _ _ e, putC_ne _ _ _ e]
    exact shut_same rfl

set_option maxHeartbeats 6400000 in
set_option maxRecDepth 100000 in
theorem implSettle_any (ao : Option Addr) (N c : Nat) (S : Nat → ClkD) (nm : ByteArray) (a : AnsD) (arw : Option Addr) (crw : Nat) (w : World) (hN : N ≤ 1048576) (hs : ClkDsShort N S 1048576) (hx : ClkDsAt w ao N S) (hnm : nm.size ≤ 1048576) (han : a.rwn ≤ 1048576) (hr : MRowsAt w arw a.rwn a.rw) (hnil : arw = none → a.rwn = 0 ∧ crw = 0) :
    Calls Try.prog 12 #[.slice ao N c, .string nm, .agg #[.int .i64 a.code, .int .i64 a.anam, .int .i64 a.price, .slice arw a.rwn crw]] w fun e w' => (∃ v N' S' R z, e = .returned (.tuple #[v, .int .i64 z]) ∧ OwnClks w' w.heap.size v N' S' R ∧ Hid (SettleIs N S nm a N' S' z)) ∧ Below w.heap.size w w' := by
  have HX : Hid (ClkDsAt w ao N S) := hx
  have HS : Hid (ClkDsShort N S 1048576) := hs
  have HR : Hid (MRowsAt w arw a.rwn a.rw ∧ (arw = none → a.rwn = 0 ∧ crw = 0)) := ⟨hr, hnil⟩
  have hb0 : Below w.heap.size w (w.alloc (.cells #[.int .i64 a.code, .int .i64 a.anam, .int .i64 a.price, .slice arw a.rwn crw] 28)) := push (Below.refl _ _) _
  have bX : (w.alloc (.cells #[.int .i64 a.code, .int .i64 a.anam, .int .i64 a.price, .slice arw a.rwn crw] 28)).heap[w.heap.size]? = some (.cells #[.int .i64 a.code, .int .i64 a.anam, .int .i64 a.price, .slice arw a.rwn crw] 28 (0, 0)) := heap_alloc_new _ _
  clear hx hs hr hnil
  go_enter Try.func12, Try.ntmps12
  go_upto_region 1 with fail
  generalize w.alloc (.cells #[.int .i64 a.code, .int .i64 a.anam, .int .i64 a.price, .slice arw a.rwn crw] 28) = V at hb0 bX ⊢
  go_wp2_with fail
  refine (implGoodC_any ao N c S V hN HS.out (HX.out.below hb0)).mono ?_
  rintro e w1 ⟨rfl, hb1⟩
  have bX1 := blk_below bX hb1
  have HB1 : Hid (Below w.heap.size w w1) := after hb0 hb1
  clear bX hb0 hb1
  by_cases hok : ClerksOk N S
  case neg =>
    rw [show clerksOk N S = false from decide_eq_false hok]
    go_wp2
    exact bodyPost_ret (v := .tuple #[.slice none 0 0, .int .i64 2]) (by simp [results, Try.results12, go_sem]) rfl ⟨⟨_, 0, S, fun _ => .slice none 0 0, 2, rfl, OwnClks.nil _ _ _ _, Or.inl ⟨hok, rfl, rfl⟩⟩, HB1.out⟩
  rw [show clerksOk N S = true from decide_eq_true hok]
  have h20 : N ≤ 20 := hok.1
  have HOK : Hid (ClerksOk N S) := hok
  clear hok
  go_wp2_with fail
  refine (staffOf_any ao N c S w1 h20 HS.out (HX.out.below HB1.out)).mono ?_
  rintro e w2 ⟨⟨sb, mb, a1, d1, R, rfl, h2⟩, hb2⟩
  have HT2 : Hid (Staff w2 w1.heap.size sb mb N (.slice a1 N d1) N S R (openIn S N)) := h2
  have bX2 := blk_below bX1 hb2
  have HB2 : Hid (Below w.heap.size w w2) := after HB1.out hb2
  have hw1 : w1.heap.size ≤ w2.heap.size := hb2.size
  have hw0 : w.heap.size ≤ w1.heap.size := HB1.out.size
  clear h2 hb2 bX1
  go_wp2_with fail
  refine (isOpen_any w2 w1.heap.size sb mb N _ N S R (openIn S N) nm HT2.out hnm).mono ?_
  rintro e w3 ⟨rfl, hb3⟩
  have HT3 : Hid (Staff w3 w1.heap.size sb mb N (.slice a1 N d1) N S R (openIn S N)) := HT2.out.below hb3
  have bX3 := blk_below bX2 hb3
  have HB3 : Hid (Below w.heap.size w w3) := after HB2.out hb3
  have hw3 : w2.heap.size ≤ w3.heap.size := hb3.size
  clear hb3 bX2
  by_cases hop : openIn S N nm
  · rw [decide_eq_true hop]
    obtain ⟨k, hkN, hko, hke⟩ := hop
    have HKO : Hid ((S k).opn = true ∧ nm = (S k).nam) := ⟨hko, hke⟩
    clear hko hke
    have x0 := blk_cell bX3 0 _ rfl
    have x1 := blk_cell bX3 1 _ rfl
    have x2 := blk_cell bX3 2 _ rfl
    have x3 := blk_cell bX3 3 _ rfl
    go_wp2_with fail
    refine (settleM_any w3 w1.heap.size sb mb N a1 d1 N S R (openIn S N) k nm a arw crw HT3.out (by omega) HOK.out.up hkN HKO.out.2.symm hnm han (HR.out.1.below HB3.out) HR.out.2).mono ?_
    rintro e w4 ⟨rfl, ⟨R4, h4⟩, hk4⟩
    have HT4 : Hid (Staff w4 w1.heap.size sb mb N (.slice a1 N d1) N (putC S k ((S k).told a)) R4 (fun s => openIn S N s ∧ s ≠ nm)) := h4
    have HB4 : Hid (Below w.heap.size w w4) := Kept.below HB3.out HB3.out.size hk4 (fun b e => by
      rcases e with e | e
      · rw [e]; have := HT3.out.hmb; omega
      · have := (HT3.out.own.row.lt b e).1; omega)
    clear h4 hk4 x0 x1 x2 x3
    go_wp2_with fail
    refine (told_any w4 w1.heap.size sb mb N _ N _ R4 _ HT4.out (by omega) (fun i hi => ?_)).mono ?_
    · by_cases e : i = k
      · subst e; rw [putC_at]; exact (HS.out i hi).1
      · rw [putC_ne _ _ _ e]; exact (HS.out i hi).1
    rintro e w5 ⟨rfl, h5, hk5⟩
    have hb5 : Below w.heap.size w w5 := Kept.below HB4.out HB4.out.size hk5 (fun b e => by have := (HT4.out.own.row.lt b e).1; omega)
    have h6 := h5.lower (b2 := w.heap.size) hw0
    clear hk5 h5
    go_wp2
    refine bodyPost_ret (v := .tuple #[.slice a1 N d1, .int .i64 0]) (by simp [results, Try.results12, go_sem]) rfl ⟨⟨_, N, _, R4, 0, rfl, h6, Or.inr ⟨HOK.out, rfl, k, ?_, Or.inl ⟨k, hkN, rfl, HKO.out.1, rfl, ?_⟩⟩⟩, hb5⟩
    · rw [HKO.out.2]; exact HOK.out.atC hkN
    · rw [HKO.out.2]; exact told_put HOK.out hkN
  · rw [decide_eq_false hop]
    have HNO : Hid (¬ openIn S N nm) := hop
    clear hop
    go_wp2_with fail
    refine (told_any w3 w1.heap.size sb mb N _ N S R (openIn S N) HT3.out (by omega) (fun i hi => (HS.out i hi).1)).mono ?_
    rintro e w5 ⟨rfl, h5, hk5⟩
    have hb5 : Below w.heap.size w w5 := Kept.below HB3.out HB3.out.size hk5 (fun b e => by have := (HT3.out.own.row.lt b e).1; omega)
    have h6 := h5.lower (b2 := w.heap.size) hw0
    clear hk5 h5
    go_wp2
    refine bodyPost_ret (v := .tuple #[.slice a1 N d1, .int .i64 3]) (by simp [results, Try.results12, go_sem]) rfl ⟨⟨_, N, _, R, 3, rfl, h6, Or.inr ⟨HOK.out, rfl, ?_⟩⟩, hb5⟩
    by_cases hex : ∃ k, k < N ∧ (S k).nam = nm
    · obtain ⟨k, hkN, rfl⟩ := hex
      have ho : (S k).opn = false := Bool.eq_false_iff.2 (fun e => HNO.out ⟨k, hkN, e, rfl⟩)
      exact ⟨k, HOK.out.atC hkN, Or.inr ⟨Or.inr ⟨k, hkN, rfl, ho⟩, rfl, told_same HOK.out⟩⟩
    · exact ⟨-1, Or.inr ⟨rfl, fun j hj e => hex ⟨j, hj, e⟩⟩, Or.inr ⟨Or.inl rfl, rfl, told_same HOK.out⟩⟩

end Go.Proofs.Ytogbaoggebghdaa
