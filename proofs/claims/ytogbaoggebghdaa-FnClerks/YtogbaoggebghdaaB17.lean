/-
  OWN TEXT: StaffI, FindC.
-/
import Derived.Deep.LoopGhost
import Derived.Lib.Bytealg
import Derived.Test.YtogbaoggebghdaaB15
import Derived.Test.YtogbaoggebghdaaB16
import Derived.Test.YtogbaoggebghdaaB10
import Derived.Test.YtogbaoggebghdaaB08
namespace Go.Proofs.Ytogbaoggebghdaa
open Go.RowKit Classical Go.MapKept Go.ChangeMaps

def openIn (S : Nat → ClkD) (k : Nat) (s : ByteArray) : Prop := ∃ i, i < k ∧ (S i).opn = true ∧ s = (S i).nam
theorem openIn_succ (S : Nat → ClkD) (k : Nat) (s : ByteArray) : openIn S (k + 1) s ↔ openIn S k s ∨ ((S k).opn = true ∧ s = (S k).nam) := by
  constructor
  · rintro ⟨i, hi, h1, h2⟩
    rcases Nat.lt_succ_iff_lt_or_eq.1 hi with e | e
    · exact Or.inl ⟨i, e, h1, h2⟩
    · subst e; exact Or.inr ⟨h1, h2⟩
  · rintro (⟨i, hi, h1, h2⟩ | ⟨h1, h2⟩)
    · exact ⟨i, by omega, h1, h2⟩
    · exact ⟨k, by omega, h1, h2⟩
theorem insC_end {α : Type} (S : Nat → α) (k : Nat) : ∀ i, i < k + 1 → insC S k (S k) i = S i := by
  intro i hi
  rcases Nat.lt_succ_iff_lt_or_eq.1 hi with e | e
  · exact insC_lt _ _ _ e
  · subst e; exact insC_at _ _ _
theorem Staff.recast {w : World} {base sb mb K N : Nat} {v : Value} {S S' : Nat → ClkD} {R : Nat → Value} {O O' : ByteArray → Prop} (h : Staff w base sb mb K v N S R O) (e : ∀ i, i < N → S i = S' i) (eO : ∀ s, O s ↔ O' s) : Staff w base sb mb K v N S' R O' := ⟨h.blk, h.hsb, h.hmb, h.own.congr e, h.set.congr eO⟩

set_option maxHeartbeats 6400000 in
set_option maxRecDepth 100000 in
theorem staffOf_any (ao : Option Addr) (N c : Nat) (S : Nat → ClkD) (w : World) (hN : N ≤ 20) (hs : ClkDsShort N S 1048576) (hx : ClkDsAt w ao N S) :
    Calls Try.prog 39 #[.slice ao N c] w fun e w' => (∃ sb mb a' c' R, e = .returned (.pointer (some ⟨sb, 0, none⟩)) ∧ Staff w' w.heap.size sb mb N (.slice a' N c') N S R (openIn S N)) ∧ Below w.heap.size w w' := by
  have HX : Hid (ClkDsAt w ao N S) := hx
  have HS : Hid (ClkDsShort N S 1048576) := hs
  clear hx hs
  have hmm := @run_makeMap Try.prog
  have hb0 : Below w.heap.size w ((w.alloc (.map #[] 0)).alloc (.cells #[.slice none 0 0, .map (some w.heap.size), .int .i64 0] 107)) := push (push (Below.refl _ _) _) _
  have H0 : Hid (Staff ((w.alloc (.map #[] 0)).alloc (.cells #[.slice none 0 0, .map (some w.heap.size), .int .i64 0] 107)) w.heap.size (w.heap.size + 1) w.heap.size 0 (.slice none 0 0) 0 S (fun _ => .slice none 0 0) (openIn S 0)) :=
    ⟨by simpa using heap_alloc_new (w.alloc (.map #[] 0)) (.cells #[.slice none 0 0, .map (some w.heap.size), .int .i64 0] 107), by omega, Nat.le_refl _, OwnClks.nil _ _ _ _, ⟨_, (World.ownsMap_made w Try.prog 9 _).alloc _, fun s => ⟨fun h => (by simp [Maps.has] at h), fun ⟨i, hi, _⟩ => absurd hi (Nat.not_lt_zero i)⟩⟩⟩
  go_enter Try.func39, Try.ntmps39
  go_wp2
  generalize (w.alloc (.map #[] 0)).alloc (.cells #[.slice none 0 0, .map (some w.heap.size), .int .i64 0] 107) = W0 at hb0 H0 ⊢
  obtain ⟨sb, hsb⟩ : ∃ sb, sb = w.heap.size + 1 := ⟨_, rfl⟩
  obtain ⟨mb, hmb⟩ : ∃ mb, mb = w.heap.size := ⟨_, rfl⟩
  have H0 : Hid (Staff W0 w.heap.size sb mb 0 (.slice none 0 0) 0 S (fun _ => .slice none 0 0) (openIn S 0)) := by rw [hsb, hmb]; exact H0
  rw [← hsb]
  clear hmb hsb
  go_loopw [11] (fun i wr => ∃ k : Nat, k ≤ N ∧ i = .int .i64 k ∧ Hid (∃ a' c' R, Staff wr w.heap.size sb mb k (.slice a' k c') k S R (openIn S k)) ∧ Below w.heap.size w wr) (fun i _ => N - (intOf i).toNat)
  case atStart => exact ⟨0, Nat.zero_le _, rfl, ⟨_, _, _, H0.out⟩, hb0⟩
  case round =>
    obtain ⟨k, hk, rfl, HT, hbel⟩ := hrel
    by_cases hlt : k < N
    case neg =>
      obtain rfl : k = N := by omega
      go_wp2
      go_ret
      obtain ⟨a', c', R, h⟩ := HT.out
      exact ⟨⟨sb, mb, a', c', R, rfl, h⟩, hbel⟩
    obtain ⟨a1, d1, R, HT⟩ := HT.out
    have HT : Hid (Staff wr w.heap.size sb mb k (.slice a1 k d1) k S R (openIn S k)) := HT
    obtain ⟨C, hC, hI⟩ := HX.out
    obtain ⟨b, off, rfl, hc⟩ := hC k hlt
    obtain ⟨arw, crw, eC, hrw, hso⟩ := hI k hlt
    have l1 : b < w.heap.size := World.block_lt_of_cell? w _ (hc 0 (by decide))
    have hsz := (HS.out k hlt).1
    have hrn : (S k).rwn ≤ 1048576 := (HS.out k hlt).2.1
    have HRW : Hid (MRowsAt w arw (S k).rwn (S k).rw ∧ (arw = none → (S k).rwn = 0 ∧ crw = 0)) := ⟨hrw, hso.2.2⟩
    have c0 : wr.cell? ⟨b, off + k * 7, none⟩ = some (.string (S k).nam) := (hbel.cell (p := ⟨b, off + k * 7, none⟩) l1).trans (by have := hc 0 (by decide); rw [eC] at this; exact this)
    have c1 : wr.cell? ⟨b, off + k * 7 + 1, none⟩ = some (.int .i64 (S k).num) := (hbel.cell (p := ⟨b, off + k * 7 + 1, none⟩) l1).trans (by have := hc 1 (by decide); rw [eC] at this; exact this)
    have c2 : wr.cell? ⟨b, off + k * 7 + 2, none⟩ = some (.bool (S k).opn) := (hbel.cell (p := ⟨b, off + k * 7 + 2, none⟩) l1).trans (by have := hc 2 (by decide); rw [eC] at this; exact this)
    have c3 : wr.cell? ⟨b, off + k * 7 + 3, none⟩ = some (.int .i64 (S k).code) := (hbel.cell (p := ⟨b, off + k * 7 + 3, none⟩) l1).trans (by have := hc 3 (by decide); rw [eC] at this; exact this)
    have c4 : wr.cell? ⟨b, off + k * 7 + 4, none⟩ = some (.int .i64 (S k).anam) := (hbel.cell (p := ⟨b, off + k * 7 + 4, none⟩) l1).trans (by have := hc 4 (by decide); rw [eC] at this; exact this)
    have c5 : wr.cell? ⟨b, off + k * 7 + 5, none⟩ = some (.int .i64 (S k).price) := (hbel.cell (p := ⟨b, off + k * 7 + 5, none⟩) l1).trans (by have := hc 5 (by decide); rw [eC] at this; exact this)
    have c6 : wr.cell? ⟨b, off + k * 7 + 6, none⟩ = some (.slice arw (S k).rwn crw) := (hbel.cell (p := ⟨b, off + k * 7 + 6, none⟩) l1).trans (by have := hc 6 (by decide); rw [eC] at this; exact this)
    clear hC hI hc eC hrw hso
    have i0 : (0 : Int) ≤ (k : Int) := by omega
    have i2 : (k : Int) < (N : Int) := by omega
    go_upto_region 5 with fail
    generalize hG : wr.alloc (.cells #[.string (S k).nam, .int .i64 (S k).num, .bool (S k).opn, .int .i64 (S k).code, .int .i64 (S k).anam, .int .i64 (S k).price, .slice arw (S k).rwn crw] 68) = V at *
    have bC : V.heap[wr.heap.size]? = some (.cells #[.string (S k).nam, .int .i64 (S k).num, .bool (S k).opn, .int .i64 (S k).code, .int .i64 (S k).anam, .int .i64 (S k).price, .slice arw (S k).rwn crw] 68 (0, 0)) := by rw [← hG]; exact heap_alloc_new _ _
    have hbV : Below wr.heap.size wr V := by rw [← hG]; exact push (Below.refl _ _) _
    have hwr : w.heap.size ≤ wr.heap.size := hbel.size
    have hVs : wr.heap.size < V.heap.size := blk_lt bC
    obtain ⟨cB, hcB⟩ : ∃ u, u = wr.heap.size := ⟨_, rfl⟩
    rw [← hcB] at bC hVs ⊢
    have hcw : w.heap.size ≤ cB := by omega
    have HTV : Hid (Staff V w.heap.size sb mb k (.slice a1 k d1) k S R (openIn S k)) := HT.out.below hbV
    have hsbV : sb < cB := by rw [hcB]; exact HT.out.lt
    have HLT : Hid (mb < cB ∧ (∀ g, (Value.slice a1 k d1).ownBlock = some g → g < cB) ∧ (∀ i, i < k → ∀ g, (R i).ownBlock = some g → g < cB)) := by
      rw [hcB]
      exact ⟨HT.out.ltm, fun g hg => (HT.out.own.row.lt g hg).2, fun i hi g hg => ((HT.out.own.rows i hi).lt g hg).2⟩
    have hbw : Below w.heap.size w V := after hbel hbV
    clear hG hcB c0 c1 c2 c3 c4 c5 c6 hbV
    have x3 := blk_cell bC 3 _ rfl
    have x4 := blk_cell bC 4 _ rfl
    have x5 := blk_cell bC 5 _ rfl
    have x6 := blk_cell bC 6 _ rfl
    go_wp2_with fail
    refine (copyAnswer_any (S k).code (S k).anam (S k).price arw (S k).rwn crw (S k).rw V hrn HRW.out.2 (HRW.out.1.below hbw)).mono ?_
    rintro e w2 ⟨⟨a2, c2, rfl, ho2⟩, hb2⟩
    have bC2 := blk_below bC hb2
    have g3 := blk_cell bC2 3 _ rfl
    have g4 := blk_cell bC2 4 _ rfl
    have g5 := blk_cell bC2 5 _ rfl
    have g6 := blk_cell bC2 6 _ rfl
    have f3 := blk_free bC2 3
    have f4 := blk_free bC2 4
    have f5 := blk_free bC2 5
    have f6 := blk_free bC2 6
    have HO2 : Hid (w2.ownsRow V.heap.size 84 5 (.slice a2 (S k).rwn c2) (S k).rwn (rowList (S k).rw (S k).rwn)) := ho2
    clear ho2
    go_upto_region 6 with fail
    have bC4 := clk_set4 bC2 (.int .i64 (S k).code) (.int .i64 (S k).anam) (.int .i64 (S k).price) (.slice a2 (S k).rwn c2)
    have hk4 : Kept w2 ((((w2.setCell ⟨cB, 3, none⟩ (.int .i64 (S k).code)).setCell ⟨cB, 4, none⟩ (.int .i64 (S k).anam)).setCell ⟨cB, 5, none⟩ (.int .i64 (S k).price)).setCell ⟨cB, 6, none⟩ (.slice a2 (S k).rwn c2)) (fun b => b = cB) := ((((Kept.refl w2 (fun b => b = cB)).set (a := ⟨cB, 3, none⟩) rfl _).set (a := ⟨cB, 4, none⟩) rfl _).set (a := ⟨cB, 5, none⟩) rfl _).set (a := ⟨cB, 6, none⟩) rfl _
    generalize (((w2.setCell ⟨cB, 3, none⟩ (.int .i64 (S k).code)).setCell ⟨cB, 4, none⟩ (.int .i64 (S k).anam)).setCell ⟨cB, 5, none⟩ (.int .i64 (S k).price)).setCell ⟨cB, 6, none⟩ (.slice a2 (S k).rwn c2) = Y at bC4 hk4 ⊢
    clear x3 x4 x5 x6 g3 g4 g5 g6 f3 f4 f5 f6 bC2 bC
    have HT2 := HTV.out.below hb2
    have HTY : Hid (Staff Y w.heap.size sb mb k (.slice a1 k d1) k S R (openIn S k)) :=
      ⟨hk4.blk HT2.blk (by omega), HT2.hsb, HT2.hmb, ⟨hk4.own HT2.own.row (fun g hg e => by have := HLT.out.2.1 g hg; omega), fun i hi => hk4.own (HT2.own.rows i hi) (fun g hg e => by have := HLT.out.2.2 i hi g hg; omega), HT2.own.apart⟩, HT2.set.kept hk4 (by have := HLT.out.1; omega)⟩
    have HOY : Hid (Y.ownsRow V.heap.size 84 5 (.slice a2 (S k).rwn c2) (S k).rwn (rowList (S k).rw (S k).rwn)) := hk4.own HO2.out (fun g hg e => by have := (HO2.out.lt g hg).1; omega)
    have hbY : Below w.heap.size w Y := Kept.below (after hbw hb2) (by have := hb2.size; omega) hk4 (fun b e => by omega)
    clear HT2 HTV HO2 hk4 hb2 HT hbw hbel
    have y0 := blk_cell bC4 0 _ rfl
    have y1 := blk_cell bC4 1 _ rfl
    have y2 := blk_cell bC4 2 _ rfl
    have y3 := blk_cell bC4 3 _ rfl
    have y4 := blk_cell bC4 4 _ rfl
    have y5 := blk_cell bC4 5 _ rfl
    have y6 := blk_cell bC4 6 _ rfl
    go_wp2_with fail
    refine (put_any Y w.heap.size sb mb k a1 d1 k S R (openIn S k) k (S k) a2 c2 HTY.out (by omega) (by omega) (Nat.le_refl _) hsz (own_base HOY.out (by omega)) (fun i hi g hg h2 => by have := HLT.out.2.2 i hi g hg; have := (HOY.out.lt g h2).1; omega)).mono ?_
    rintro e w5 ⟨rfl, ⟨a5, c5, hT5, hat5⟩, hk5⟩
    have HT5 : Hid (∃ a' c' R, Staff w5 w.heap.size sb mb (k + 1) (.slice a' (k + 1) c') (k + 1) S R (openIn S (k + 1))) := ⟨a5, c5, _, hT5.recast (insC_end S k) (fun s => (openIn_succ S k s).symm)⟩
    have hb5 : Below w.heap.size w w5 := Kept.below hbY hbY.size hk5 (fun b e => by
      rcases e with e | e | e
      · rw [e]; exact HTY.out.hsb
      · rw [e]; exact HTY.out.hmb
      · exact (HTY.out.own.row.lt b e).1)
    clear hT5 hat5 hk5 y0 y1 y2 y3 y4 y5 y6
    go_wp2
    go_roundw
    case rel => exact ⟨k + 1, by omega, by go_num, HT5, hb5⟩
    case measure => simp [intOf]; omega

end Go.Proofs.Ytogbaoggebghdaa

namespace Go.Proofs.Ytogbaoggebghdaa
open Go.RowKit Classical

def cmpT (a b : ByteArray) : Int := Lib.compareBytes a.data.toList b.data.toList
theorem cmpB_lt : ∀ (x y : List UInt8), Lib.compareBytes x y < 0 ↔ Op.bytesLess x y = true
  | [], [] => by simp [Lib.compareBytes, Op.bytesLess]
  | _ :: _, [] => by simp [Lib.compareBytes, Op.bytesLess]
  | [], _ :: _ => by simp [Lib.compareBytes, Op.bytesLess]
  | a :: x, b :: y => by
    rw [Lib.compareBytes, Op.bytesLess]
    by_cases h1 : a < b
    · simp [h1]
    · by_cases h2 : b < a
      · have h3 : (a == b) = false := by simp; rintro rfl; exact h1 h2
        simp [h1, h2, h3]
      · have h3 : a = b := UInt8.le_antisymm (UInt8.not_lt.1 h2) (UInt8.not_lt.1 h1)
        subst h3
        simpa using cmpB_lt x y
theorem cmpB_eq : ∀ (x y : List UInt8), Lib.compareBytes x y = 0 ↔ x = y
  | [], [] => by simp [Lib.compareBytes]
  | _ :: _, [] => by simp [Lib.compareBytes]
  | [], _ :: _ => by simp [Lib.compareBytes]
  | a :: x, b :: y => by
    rw [Lib.compareBytes]
    by_cases h1 : a < b
    · have h3 : ¬ a = b := by rintro rfl; exact absurd h1 (UInt8.lt_irrefl a)
      simp [h1, h3]
    · by_cases h2 : b < a
      · have h3 : ¬ a = b := by rintro rfl; exact h1 h2
        simp [h1, h2, h3]
      · have h3 : a = b := UInt8.le_antisymm (UInt8.not_lt.1 h2) (UInt8.not_lt.1 h1)
        subst h3
        simpa using cmpB_eq x y
theorem data_list (a : ByteArray) : a.data.toList = a.toList := (Lib.toList_data a).symm
theorem cmpT_lt (a b : ByteArray) : cmpT a b < 0 ↔ textLt a b := by unfold cmpT textLt; rw [cmpB_lt, data_list, data_list]
theorem cmpT_eq (a b : ByteArray) : cmpT a b = 0 ↔ a = b := by
  unfold cmpT
  rw [cmpB_eq, data_list, data_list]
  exact ⟨text_ext, fun h => by rw [h]⟩

theorem compare_is (a b : ByteArray) (w : World) : Calls Try.prog 85 #[.string a, .string b] w fun e w' => e = .returned (.int .i64 (cmpT a b)) ∧ w' = w := by
  have hd : (callFunc 108 #[.string a, .string b]).run Try.prog w = .ok (.value (.int .i64 (cmpT a b))) w := by
    rw [run_callFunc_extern Try.func108 (by kernel_rfl) (by kernel_rfl) (by kernel_rfl) (e := Extern.BytealgCompare.compare) (by kernel_rfl), Lib.run_compareString]
    rfl
  go_enter Try.func85, Try.ntmps85
  go_wp2
  go_ret
  exact ⟨rfl, rfl⟩

/-- Where a name stands, or would. -/
def NameAt (N : Nat) (S : Nat → ClkD) (nm : ByteArray) (p : Nat) : Prop := p ≤ N ∧ (∀ j, j < p → textLt (S j).nam nm) ∧ (∀ j, p ≤ j → j < N → ¬ textLt (S j).nam nm)
def NamesUp (N : Nat) (S : Nat → ClkD) : Prop := ∀ i j, i < j → j < N → textLt (S i).nam (S j).nam

set_option maxRecDepth 100000 in
theorem cmpName_any (a nm : ByteArray) (u1 u2 u3 u4 u5 u6 : Value) (w : World) :
    Calls Try.prog 84 #[.agg #[.string a, u1, u2, u3, u4, u5, u6], .string nm] w fun e w' => e = .returned (.int .i64 (cmpT a nm)) ∧ Below w.heap.size w w' := by
  have hb0 : Below w.heap.size w (w.alloc (.cells #[.string a, u1, u2, u3, u4, u5, u6] 68)) := push (Below.refl _ _) _
  go_enter Try.func84, Try.ntmps84
  go_wp2_with fail
  refine (compare_is a nm _).mono ?_
  rintro e w1 ⟨rfl, rfl⟩
  go_wp2
  go_ret
  exact ⟨rfl, hb0⟩

set_option maxHeartbeats 3200000 in
set_option maxRecDepth 100000 in
theorem searchC_any (ao : Option Addr) (N c : Nat) (S : Nat → ClkD) (nm : ByteArray) (w : World) (hN : N ≤ 60) (hk : NamesUp N S) (hx : ClkDsAt w ao N S) :
    Calls Try.prog 83 #[.slice ao N c, .string nm, .func (.func 84) #[] #[]] w fun e w' => (∃ p : Nat, e = .returned (.tuple #[.int .i64 p, .bool (decide (p < N ∧ (S p).nam = nm))]) ∧ Hid (NameAt N S nm p)) ∧ Below w.heap.size w w' := by
  have HK : Hid (NamesUp N S) := hk
  have HX : Hid (ClkDsAt w ao N S) := hx
  clear hk hx
  go_enter Try.func83, Try.ntmps83
  go_wp2
  go_loopg [9, 10] N (fun kx s9 s10 wr => ∃ lo hi : Nat, s9 = .int .i64 lo ∧ s10 = .int .i64 hi ∧ lo ≤ hi ∧ hi ≤ N ∧ hi - lo ≤ kx ∧ Below w.heap.size w wr ∧ Hid ((∀ t, t < lo → textLt (S t).nam nm) ∧ (∀ t, hi ≤ t → t < N → ¬ textLt (S t).nam nm)))
  case atStart => exact ⟨0, N, rfl, rfl, Nat.zero_le _, Nat.le_refl _, by omega, Below.refl _ _, ⟨fun t ht => absurd ht (Nat.not_lt_zero _), fun t h1 h2 => by omega⟩⟩
  case round =>
    obtain ⟨lo, hi, rfl, rfl, hlh, hin, hg, hbel, I⟩ := hrel
    by_cases hlt : lo < hi
    · have hmid : (lo + hi) / 2 < N := by omega
      obtain ⟨C, hC, hI⟩ := HX.out
      obtain ⟨b, off, rfl, hc⟩ := hC ((lo + hi) / 2) hmid
      obtain ⟨arw, crw, eC, _, _⟩ := hI ((lo + hi) / 2) hmid
      have l1 : b < w.heap.size := World.block_lt_of_cell? w _ (hc 0 (by decide))
      have d0 : wr.cell? ⟨b, off + (lo + hi) / 2 * 7, none⟩ = some (.string (S ((lo + hi) / 2)).nam) := (hbel.cell (p := ⟨b, off + (lo + hi) / 2 * 7, none⟩) l1).trans (by have := hc 0 (by decide); rw [eC] at this; exact this)
      have d1 : wr.cell? ⟨b, off + (lo + hi) / 2 * 7 + 1, none⟩ = some (.int .i64 (S ((lo + hi) / 2)).num) := (hbel.cell (p := ⟨b, off + (lo + hi) / 2 * 7 + 1, none⟩) l1).trans (by have := hc 1 (by decide); rw [eC] at this; exact this)
      have d2 : wr.cell? ⟨b, off + (lo + hi) / 2 * 7 + 2, none⟩ = some (.bool (S ((lo + hi) / 2)).opn) := (hbel.cell (p := ⟨b, off + (lo + hi) / 2 * 7 + 2, none⟩) l1).trans (by have := hc 2 (by decide); rw [eC] at this; exact this)
      have d3 : wr.cell? ⟨b, off + (lo + hi) / 2 * 7 + 3, none⟩ = some (.int .i64 (S ((lo + hi) / 2)).code) := (hbel.cell (p := ⟨b, off + (lo + hi) / 2 * 7 + 3, none⟩) l1).trans (by have := hc 3 (by decide); rw [eC] at this; exact this)
      have d4 : wr.cell? ⟨b, off + (lo + hi) / 2 * 7 + 4, none⟩ = some (.int .i64 (S ((lo + hi) / 2)).anam) := (hbel.cell (p := ⟨b, off + (lo + hi) / 2 * 7 + 4, none⟩) l1).trans (by have := hc 4 (by decide); rw [eC] at this; exact this)
      have d5 : wr.cell? ⟨b, off + (lo + hi) / 2 * 7 + 5, none⟩ = some (.int .i64 (S ((lo + hi) / 2)).price) := (hbel.cell (p := ⟨b, off + (lo + hi) / 2 * 7 + 5, none⟩) l1).trans (by have := hc 5 (by decide); rw [eC] at this; exact this)
      have d6 : wr.cell? ⟨b, off + (lo + hi) / 2 * 7 + 6, none⟩ = some (.slice arw (S ((lo + hi) / 2)).rwn crw) := (hbel.cell (p := ⟨b, off + (lo + hi) / 2 * 7 + 6, none⟩) l1).trans (by have := hc 6 (by decide); rw [eC] at this; exact this)
      clear hC hI hc eC
      generalize hy : cmpT (S ((lo + hi) / 2)).nam nm = y
      have HY : Hid (y < 0 ↔ textLt (S ((lo + hi) / 2)).nam nm) := by rw [← hy]; exact cmpT_lt _ _
      have HCM : Hid (∀ w u1 u2 u3 u4 u5 u6, Calls Try.prog 84 #[.agg #[.string (S ((lo + hi) / 2)).nam, u1, u2, u3, u4, u5, u6], .string nm] w fun e w' => e = .returned (.int .i64 y) ∧ Below w.heap.size w w') := by rw [← hy]; exact fun w u1 u2 u3 u4 u5 u6 => cmpName_any _ nm u1 u2 u3 u4 u5 u6 w
      clear hy
      by_cases hyx : y < 0
      · have dd : decide (y < 0) = true := by simpa using hyx
        go_wp2_with (first | (go_at_call 84; refine (HCM.out _ _ _ _ _ _ _).mono ?_; rintro e w2 ⟨rfl, hb2⟩))
        go_roundg (hi - ((lo + hi) / 2 + 1))
        case measure => omega
        case rel =>
          refine ⟨(lo + hi) / 2 + 1, hi, by rw [show ((lo : Int) + (hi : Int)) / 2 + 1 = (((lo + hi) / 2 + 1 : Nat) : Int) by omega], rfl, by omega, hin, Nat.le_refl _, after hbel hb2, ⟨fun t ht => ?_, I.out.2⟩⟩
          have h4 := HY.out.1 hyx
          rcases Nat.lt_succ_iff_lt_or_eq.1 ht with e | e
          · exact (HK.out t _ e hmid).trans h4
          · rw [e]; exact h4
      · have dd : decide (y < 0) = false := by simpa using hyx
        go_wp2_with (first | (go_at_call 84; refine (HCM.out _ _ _ _ _ _ _).mono ?_; rintro e w2 ⟨rfl, hb2⟩))
        go_roundg ((lo + hi) / 2 - lo)
        case measure => omega
        case rel =>
          refine ⟨lo, (lo + hi) / 2, rfl, by rw [show ((lo : Int) + (hi : Int)) / 2 = (((lo + hi) / 2 : Nat) : Int) by omega], by omega, by omega, Nat.le_refl _, after hbel hb2, ⟨I.out.1, fun t ht htn h5 => ?_⟩⟩
          rcases Nat.lt_or_eq_of_le ht with e | e
          · exact absurd (HY.out.2 ((HK.out _ t e htn).trans h5)) (by omega)
          · rw [← e] at h5; exact absurd (HY.out.2 h5) (by omega)
    · obtain rfl : hi = lo := by omega
      have HA : Hid (NameAt N S nm hi) := ⟨hin, I.out.1, I.out.2⟩
      by_cases hn : hi < N
      · skip
        obtain ⟨C, hC, hI⟩ := HX.out
        obtain ⟨b, off, rfl, hc⟩ := hC hi hn
        obtain ⟨arw, crw, eC, _, _⟩ := hI hi hn
        have l1 : b < w.heap.size := World.block_lt_of_cell? w _ (hc 0 (by decide))
        have d0 : wr.cell? ⟨b, off + hi * 7, none⟩ = some (.string (S hi).nam) := (hbel.cell (p := ⟨b, off + hi * 7, none⟩) l1).trans (by have := hc 0 (by decide); rw [eC] at this; exact this)
        have d1 : wr.cell? ⟨b, off + hi * 7 + 1, none⟩ = some (.int .i64 (S hi).num) := (hbel.cell (p := ⟨b, off + hi * 7 + 1, none⟩) l1).trans (by have := hc 1 (by decide); rw [eC] at this; exact this)
        have d2 : wr.cell? ⟨b, off + hi * 7 + 2, none⟩ = some (.bool (S hi).opn) := (hbel.cell (p := ⟨b, off + hi * 7 + 2, none⟩) l1).trans (by have := hc 2 (by decide); rw [eC] at this; exact this)
        have d3 : wr.cell? ⟨b, off + hi * 7 + 3, none⟩ = some (.int .i64 (S hi).code) := (hbel.cell (p := ⟨b, off + hi * 7 + 3, none⟩) l1).trans (by have := hc 3 (by decide); rw [eC] at this; exact this)
        have d4 : wr.cell? ⟨b, off + hi * 7 + 4, none⟩ = some (.int .i64 (S hi).anam) := (hbel.cell (p := ⟨b, off + hi * 7 + 4, none⟩) l1).trans (by have := hc 4 (by decide); rw [eC] at this; exact this)
        have d5 : wr.cell? ⟨b, off + hi * 7 + 5, none⟩ = some (.int .i64 (S hi).price) := (hbel.cell (p := ⟨b, off + hi * 7 + 5, none⟩) l1).trans (by have := hc 5 (by decide); rw [eC] at this; exact this)
        have d6 : wr.cell? ⟨b, off + hi * 7 + 6, none⟩ = some (.slice arw (S hi).rwn crw) := (hbel.cell (p := ⟨b, off + hi * 7 + 6, none⟩) l1).trans (by have := hc 6 (by decide); rw [eC] at this; exact this)
        clear hC hI hc eC
        generalize hy : cmpT (S hi).nam nm = y
        have HY : Hid (y = 0 ↔ (S hi).nam = nm) := by rw [← hy]; exact cmpT_eq _ _
        have HCM : Hid (∀ w u1 u2 u3 u4 u5 u6, Calls Try.prog 84 #[.agg #[.string (S hi).nam, u1, u2, u3, u4, u5, u6], .string nm] w fun e w' => e = .returned (.int .i64 y) ∧ Below w.heap.size w w') := by rw [← hy]; exact fun w u1 u2 u3 u4 u5 u6 => cmpName_any _ nm u1 u2 u3 u4 u5 u6 w
        clear hy
        have e0 : decide ((hi : Int) < (N : Int)) = true := by simp; omega
        by_cases hyx : y = 0
        · have HD : Hid (decide (hi < N ∧ (S hi).nam = nm) = true) := decide_eq_true ⟨hn, HY.out.1 hyx⟩
          have ee : (y == 0) = true := by simpa using hyx
          go_wp2_with (first | (go_at_call 84; refine (HCM.out _ _ _ _ _ _ _).mono ?_; rintro e w2 ⟨rfl, hb2⟩))
          exact bodyPost_ret (v := .tuple #[.int .i64 hi, .bool true]) (by simp [results, Try.results83, go_sem]) rfl ⟨⟨hi, by rw [HD.out], HA⟩, after hbel hb2⟩
        · have HD : Hid (decide (hi < N ∧ (S hi).nam = nm) = false) := decide_eq_false (fun h => hyx (HY.out.2 h.2))
          have ee : (y == 0) = false := by simpa using hyx
          go_wp2_with (first | (go_at_call 84; refine (HCM.out _ _ _ _ _ _ _).mono ?_; rintro e w2 ⟨rfl, hb2⟩))
          exact bodyPost_ret (v := .tuple #[.int .i64 hi, .bool false]) (by simp [results, Try.results83, go_sem]) rfl ⟨⟨hi, by rw [HD.out], HA⟩, after hbel hb2⟩
      · have HD : Hid (decide (hi < N ∧ (S hi).nam = nm) = false) := decide_eq_false (fun h => hn h.1)
        have e0 : decide ((hi : Int) < (N : Int)) = false := by simp; omega
        go_wp2
        exact bodyPost_ret (v := .tuple #[.int .i64 hi, .bool false]) (by simp [results, Try.results83, go_sem]) rfl ⟨⟨hi, by rw [HD.out], HA⟩, hbel⟩

end Go.Proofs.Ytogbaoggebghdaa
