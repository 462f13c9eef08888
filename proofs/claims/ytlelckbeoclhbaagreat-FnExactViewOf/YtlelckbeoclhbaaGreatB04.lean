/-
  OWN TEXT: MarkTx, MarkTz, MarkBo, LMRowE.
-/
import Derived.Deep.DeepCutAuto
import Derived.Test.YtlelckbeoclhbaaGreatRows
import Derived.Deep.RegionHeld3
import Derived.Test.YtlelckbeoclhbaaGreatB03
import Derived.Test.YtlelckbeoclhbaaGreatB02
set_option maxHeartbeats 12800000
set_option maxRecDepth 100000
namespace Go.Proofs.YtlelckbeoclhbaaGreat
open Go.RowKit
def markFin (q : Nat) (s : ByteArray) : ByteArray :=
  if _h : q = 0 then ⟨#[109]⟩ ++ s else markFin (q / 10) (ByteArray.empty.push (48 + UInt8.ofNat (q % 10)) ++ s)
termination_by q
decreasing_by omega
theorem markFin_0 (s : ByteArray) : markFin 0 s = ⟨#[109]⟩ ++ s := by rw [markFin]; simp
theorem markFin_s {q : Nat} (h : q ≠ 0) (s : ByteArray) : markFin q s = markFin (q / 10) (ByteArray.empty.push (48 + UInt8.ofNat (q % 10)) ++ s) := by rw [markFin]; simp [h]
def markT (k : Nat) : ByteArray := if k = 0 then ⟨#[109, 48]⟩ else markFin k ⟨#[]⟩
theorem markText_is (k : Nat) (w : World) (hk : k ≤ 1000000000000000) :
    Calls Tryz.prog 74 #[.int .i64 k] w fun e w' => e = .returned (.string (markT k)) ∧ Below w.heap.size w w' := by
  by_cases h0 : k = 0
  · subst h0
    go_enter Tryz.func74, Tryz.ntmps74
    go_wp2
    go_ret
    exact ⟨rfl, Below.refl _ _⟩
  · have d0 : decide ((k : Int) ≤ 0) = false := decide_eq_false (by omega)
    have HK : Hid (markT k = markFin k ⟨#[]⟩) := by show markT k = _; unfold markT; rw [if_neg h0]
    go_enter Tryz.func74, Tryz.ntmps74
    go_wp2
    go_loopw [0, 3] (fun s0 s3 wr => ∃ (q : Nat) (s : ByteArray), s0 = .int .i64 q ∧ s3 = .string s ∧ s.size + q ≤ 1000000000000000 ∧ Hid (markFin q s = markT k) ∧ Below w.heap.size w wr) (fun s0 _ _ => (intOf s0).toNat)
    case atStart => exact ⟨k, ⟨#[]⟩, rfl, rfl, by show 0 + k ≤ _; omega, HK.out.symm, Below.refl _ _⟩
    case round =>
      obtain ⟨q, s, rfl, rfl, hs, hfin, hbel⟩ := hrel
      by_cases hq : q = 0
      · subst hq
        have hsum := run_string_add_sum (P := Tryz.prog) (w := wr) ⟨#[109]⟩ s (by show 1 + s.size ≤ _; omega)
        go_wp2
        go_ret
        refine ⟨?_, hbel⟩
        rw [← hfin.out, markFin_0]
        rfl
      · have dq : decide ((0 : Int) < (q : Int)) = true := decide_eq_true (by omega)
        have hconv : (convert 190 9 (.slice (some ⟨wr.heap.size, 0, none⟩) 1 1)).run Tryz.prog (wr.alloc (.cells #[.int .u8 (48 + (q : Int) % 10)] 5)) = .ok (.string (ByteArray.empty.push (UInt8.ofNat (48 + (q : Int) % 10).toNat))) (wr.alloc (.cells #[.int .u8 (48 + (q : Int) % 10)] 5)) := by
          rw [run_convert_bytes_string _ 190 9 5 _ 1 1 Tryz.underlying190 Tryz.underlying5 Tryz.underlying9]
          exact run_bytesToString _ _ 1 1 [48 + (q : Int) % 10] (run_loadCells_list _ _ [.int .u8 (48 + (q : Int) % 10)] (fun j v hj => by
            cases j with
            | zero => simp at hj; subst hj; simp [Addr.add, World.cell?_alloc_mark]
            | succ j => simp at hj))
        have hsum := run_string_add_sum (P := Tryz.prog) (w := wr.alloc (.cells #[.int .u8 (48 + (q : Int) % 10)] 5)) (ByteArray.empty.push (UInt8.ofNat (48 + (q : Int) % 10).toNat)) s (by show 1 + s.size ≤ _; omega)
        go_wp2
        refine ⟨⟨q / 10, _, by simp, rfl, ?_, ?_, push hbel _⟩, ?_⟩
        · have e : (ByteArray.empty.push (48 + UInt8.ofNat (q % 10)) ++ s).size = 1 + s.size := by
            rw [ByteArray.size_append]; rfl
          rw [e]; omega
        · show markFin (q / 10) _ = markT k
          rw [← hfin.out, markFin_s hq]
        · simp only [intOf]; omega
end Go.Proofs.YtlelckbeoclhbaaGreat

namespace Go.Proofs.YtlelckbeoclhbaaGreat
open Go.RowKit
theorem markText_isZ (z : Int) (w : World) (h0 : 0 ≤ z) (hk : z ≤ 1000000000000000) :
    Calls Tryz.prog 74 #[.int .i64 z] w fun e w' => e = .returned (.string (markT z.toNat)) ∧ Below w.heap.size w w' := by
  obtain ⟨q, rfl⟩ := Int.eq_ofNat_of_zero_le h0
  exact markText_is q w (by omega)
end Go.Proofs.YtlelckbeoclhbaaGreat

namespace Go.Proofs.YtlelckbeoclhbaaGreat
open Go.RowKit
def kB (S : Nat → Book) (k0 : Nat) : Nat → Nat
  | 0 => k0
  | i + 1 => kB S k0 i + (12 + (S i).lgn)
def mB (S : Nat → Book) (k0 : Nat) (i : Nat) : Book :=
  ⟨(kB S k0 i : Nat), (kB S k0 i + 1 : Nat), markT (kB S k0 i + 2), (S i).lgn, fun j => ((kB S k0 i + 3 : Nat) : Int) + j, (kB S k0 i + 3 + (S i).lgn : Nat), (kB S k0 i + 4 + (S i).lgn : Nat), (kB S k0 i + 5 + (S i).lgn : Nat), (kB S k0 i + 6 + (S i).lgn : Nat),
    (((kB S k0 i + 7 + (S i).lgn : Nat) : Int) % 3 == 0), (kB S k0 i + 8 + (S i).lgn : Nat), (kB S k0 i + 9 + (S i).lgn : Nat), (kB S k0 i + 10 + (S i).lgn : Nat), (kB S k0 i + 11 + (S i).lgn : Nat)⟩
def mixB (S : Nat → Book) (k0 t : Nat) (i : Nat) : Book := if i < t then mB S k0 i else S i
theorem mixB_lt {S : Nat → Book} {k0 t i : Nat} (h : i < t) : mixB S k0 t i = mB S k0 i := if_pos h
theorem mixB_ge {S : Nat → Book} {k0 t i : Nat} (h : ¬ i < t) : mixB S k0 t i = S i := if_neg h
theorem mixB_n (S : Nat → Book) (k0 t i : Nat) : (mixB S k0 t i).lgn = (S i).lgn := by unfold mixB; split <;> rfl
theorem mixB_other {S : Nat → Book} {k0 t i : Nat} (h : i ≠ t) : mixB S k0 (t + 1) i = mixB S k0 t i := by
  by_cases h1 : i < t
  · rw [mixB_lt h1, mixB_lt (by omega)]
  · rw [mixB_ge h1, mixB_ge (by omega)]
theorem kB_le {S : Nat → Book} {k0 N : Nat} (h : ∀ i, i < N → (S i).lgn ≤ 1048576) : ∀ i, i ≤ N → kB S k0 i ≤ k0 + i * 1048600
  | 0, _ => by unfold kB; omega
  | i + 1, hi => by
    have := kB_le (k0 := k0) h i (by omega)
    have := h i (by omega)
    unfold kB
    omega
def BkB (v : Value) (N : Nat) (L : Nat → Value) (b : Nat) : Prop := v.ownBlock = some b ∨ ∃ i, i < N ∧ (L i).ownBlock = some b
theorem markIntZ (z : Int) (v : Value) (n base k0 : Nat) (F : Nat → Int) (w : World) (hz : z = (k0 : Int)) (hn : n ≤ 1048576) (h1 : k0 ≤ 100000000000000) (ho : w.ownsRow base 3 1 v n (intList F n)) :
    Calls Tryz.prog 40 #[v, .int .i64 z] w fun e w' => e = .returned (.int .i64 ((k0 + n : Nat) : Int)) ∧ w'.ownsRow base 3 1 v n (intList (fun j => (k0 : Int) + j) n) ∧ Kept w w' (fun b => v.ownBlock = some b) := by
  subst hz
  obtain ⟨ao, c, rfl, _⟩ := own_form ho
  refine (markIntS_own ao n c base F k0 w (by omega) (by omega) (by omega) ho).mono ?_
  rintro e w' ⟨rfl, h2, h3⟩
  refine ⟨by rw [show ((k0 + n : Nat) : Int) = (k0 : Int) + n by omega], h2, h3.mono (fun b e => ?_)⟩
  obtain ⟨g, rfl, rfl⟩ := e
  rfl
theorem heldIntZ (z : Int) (ao : Option Addr) (n c k0 : Nat) (w : World) (hz : z = (k0 : Int)) (hn : n ≤ 1048576) (h1 : k0 ≤ 100000000000000) (h : IntsAt w ao n (fun j => (k0 : Int) + j)) :
    Calls Tryz.prog 44 #[.slice ao n c, .int .i64 z] w fun e w' => e = .returned (.int .i64 ((k0 + n : Nat) : Int)) ∧ Below w.heap.size w w' := by
  subst hz
  refine (heldIntS_yes ao n c k0 w (by omega) (by omega) (by omega) h).mono ?_
  rintro e w' h2
  rw [show ((k0 + n : Nat) : Int) = (k0 : Int) + n by omega]
  exact ⟨h2.1, by rw [h2.2]; exact Below.refl _ _⟩
theorem markBks_own (ao : Option Addr) (N c base k0 : Nat) (S : Nat → Book) (L : Nat → Value) (w : World) (hN : N ≤ 1048576) (h1 : k0 ≤ 1048576) (hs : ∀ i, i < N → (S i).lgn ≤ 1048576) (ho : OwnBks w base (.slice ao N c) N S L) :
    Calls Tryz.prog 37 #[.slice ao N c, .int .i64 (k0 : Int)] w fun e w' => e = .returned (.int .i64 ((kB S k0 N : Nat) : Int)) ∧ OwnBks w' base (.slice ao N c) N (mB S k0) L ∧ Kept w w' (BkB (.slice ao N c) N L) := by
  have HS : Hid (∀ i, i < N → (S i).lgn ≤ 1048576) := hs
  have HO0 : Hid (OwnBks w base (.slice ao N c) N S L) := ho
  clear hs ho
  go_enter Tryz.func37, Tryz.ntmps37
  go_wp2
  go_loopw [1, 5] (fun q i wr => ∃ (t k : Nat), t ≤ N ∧ i = .int .i64 t ∧ q = .int .i64 k ∧ k = kB S k0 t ∧ OwnBks wr base (.slice ao N c) N (mixB S k0 t) L ∧ Kept w wr (BkB (.slice ao N c) N L)) (fun _ i _ => N - (intOf i).toNat)
  case atStart =>
    refine ⟨0, k0, Nat.zero_le _, rfl, rfl, rfl, ?_, Kept.refl _ _⟩
    have e : mixB S k0 0 = S := by funext i; exact mixB_ge (by omega)
    rw [e]; exact HO0.out
  case round =>
    clear HO0
    obtain ⟨t, k, ht, rfl, rfl, hkk, hO, hk⟩ := hrel
    have HKK : Hid (k = kB S k0 t) := hkk
    have kb : k ≤ 10000000000000 := by have := kB_le (k0 := k0) HS.out t ht; omega
    clear hkk
    by_cases hlt : t < N
    · have hmt : mixB S k0 t t = S t := mixB_ge (by omega)
      have hlg := hO.legs t hlt
      rw [hmt] at hlg
      obtain ⟨al, cl, eL, _⟩ := own_form hlg
      obtain ⟨g, rfl, hg1, hg2⟩ := own_addr hO.row (by omega)
      obtain ⟨u0, q0⟩ : ∃ v, wr.cell? ⟨g, t * 13 + 0, none⟩ = some v := ⟨_, own_rcell hO.row hlt (by decide)⟩
      obtain ⟨u1, q1⟩ : ∃ v, wr.cell? ⟨g, t * 13 + 1, none⟩ = some v := ⟨_, own_rcell hO.row hlt (by decide)⟩
      rw [Nat.add_zero] at q0
      have f0 := hO.row.frozenAt (t * 13)
      have f1 := hO.row.frozenAt (t * 13 + 1)
      have HO : Hid (OwnBks wr base (.slice (some ⟨g, 0, none⟩) N c) N (mixB S k0 t) L) := hO
      have HEL : Hid (L t = .slice al (S t).lgn cl) := eL
      have HLG : Hid (wr.ownsRow base 3 1 (.slice al (S t).lgn cl) (S t).lgn (intList (S t).lg (S t).lgn)) := eL ▸ hlg
      have HKP : Hid (Kept w wr (BkB (.slice (some ⟨g, 0, none⟩) N c) N L)) := hk
      have hsn := HS.out t hlt
      clear hO hlg eL hk hmt
      go_wp2_with fail
      refine (markText_isZ _ _ (by omega) (by omega)).mono ?_
      rintro e w2 ⟨rfl, hb2⟩
      have HR1 : Hid _ := own_rec HO.out.row t 0 (.int .i64 (k : Int)) rfl (by decide)
      have HR1' : Hid _ := own_rec HR1.out t 1 (.int .i64 ((k : Int) + 1)) (by rw [setC_at]; rfl) (by decide)
      rw [Nat.add_zero] at HR1'
      have HR2 : Hid _ := own_below hb2 HR1'.out
      have hkA : Kept wr w2 (fun b => b = g) := (((Kept.refl wr (fun b => b = g)).set (a := ⟨g, t * 13, none⟩) rfl (.int .i64 (k : Int))).set (a := ⟨g, t * 13 + 1, none⟩) rfl (.int .i64 ((k : Int) + 1))).trans (Kept.of_below hb2)
      have htx : ((k : Int) + 1 + 1).toNat = kB S k0 t + 2 := by have := HKK.out; omega
      rw [htx]
      clear htx q0 q1 f0 f1 hb2 HR1 HR1'
      obtain ⟨u2, q2⟩ : ∃ v, w2.cell? ⟨g, t * 13 + 2, none⟩ = some v := ⟨_, own_rcell HR2.out hlt (by decide)⟩
      have q3 : w2.cell? ⟨g, t * 13 + 3, none⟩ = some (.slice al (S t).lgn cl) := by
        rw [own_rcell HR2.out hlt (by decide), setC_at, setC_at]
        show some (L t) = _
        rw [HEL.out]
      have f2 := World.ownsRow.frozenAt HR2.out (t * 13 + 2)
      go_wp2_with fail
      have HR3 : Hid _ := own_rec HR2.out t 2 (.string (markT (kB S k0 t + 2))) (by rw [setC_at, setC_at]; rfl) (by decide)
      have hkC : Kept wr (w2.setCell ⟨g, t * 13 + 2, none⟩ (.string (markT (kB S k0 t + 2)))) (fun b => b = g) := hkA.set (a := ⟨g, t * 13 + 2, none⟩) rfl _
      clear q2 q3 f2 hkA HR2
      generalize w2.setCell ⟨g, t * 13 + 2, none⟩ (.string (markT (kB S k0 t + 2))) = W4 at HR3 hkC ⊢
      have rowg : ∀ b, (Value.slice (some ⟨g, 0, none⟩) N c).ownBlock = some b ↔ b = g := fun b => by simp [Value.ownBlock]; exact eq_comm
      have HL4 : Hid (W4.ownsRow base 3 1 (.slice al (S t).lgn cl) (S t).lgn (intList (S t).lg (S t).lgn)) := hkC.own HLG.out (fun b hb e => own_apart HO.out.row HLG.out (by decide) b ((rowg b).2 e) hb)
      refine (markIntZ _ (.slice al (S t).lgn cl) (S t).lgn base (kB S k0 t + 3) (S t).lg _ (by have := HKK.out; omega) hsn (by have := HKK.out; omega) HL4.out).mono ?_
      rintro e w5 ⟨rfl, hl5, hk5⟩
      have HR5 : Hid _ := hk5.own HR3.out (fun b hb e => own_apart HR3.out HL4.out (by decide) b hb e)
      have HL5 : Hid (w5.ownsRow base 3 1 (.slice al (S t).lgn cl) (S t).lgn (intList (fun j => ((kB S k0 t + 3 : Nat) : Int) + j) (S t).lgn)) := hl5
      have HK5 : Hid (Kept W4 w5 (fun b => (Value.slice al (S t).lgn cl).ownBlock = some b)) := hk5
      have HKC : Hid (Kept wr W4 (fun b => b = g)) := hkC
      have hk9 : kB S k0 t + 3 + (S t).lgn ≤ 20000000000000 := by have := HKK.out; omega
      clear hl5 hk5 hkC
      obtain ⟨u4, q4⟩ : ∃ v, w5.cell? ⟨g, t * 13 + 4, none⟩ = some v := ⟨_, own_rcell HR5.out hlt (by decide)⟩
      have f4 := World.ownsRow.frozenAt HR5.out (t * 13 + 4)
      obtain ⟨u5, q5⟩ : ∃ v, w5.cell? ⟨g, t * 13 + 5, none⟩ = some v := ⟨_, own_rcell HR5.out hlt (by decide)⟩
      have f5 := World.ownsRow.frozenAt HR5.out (t * 13 + 5)
      obtain ⟨u6, q6⟩ : ∃ v, w5.cell? ⟨g, t * 13 + 6, none⟩ = some v := ⟨_, own_rcell HR5.out hlt (by decide)⟩
      have f6 := World.ownsRow.frozenAt HR5.out (t * 13 + 6)
      obtain ⟨u7, q7⟩ : ∃ v, w5.cell? ⟨g, t * 13 + 7, none⟩ = some v := ⟨_, own_rcell HR5.out hlt (by decide)⟩
      have f7 := World.ownsRow.frozenAt HR5.out (t * 13 + 7)
      obtain ⟨u8, q8⟩ : ∃ v, w5.cell? ⟨g, t * 13 + 8, none⟩ = some v := ⟨_, own_rcell HR5.out hlt (by decide)⟩
      have f8 := World.ownsRow.frozenAt HR5.out (t * 13 + 8)
      obtain ⟨u9, q9⟩ : ∃ v, w5.cell? ⟨g, t * 13 + 9, none⟩ = some v := ⟨_, own_rcell HR5.out hlt (by decide)⟩
      have f9 := World.ownsRow.frozenAt HR5.out (t * 13 + 9)
      obtain ⟨u10, q10⟩ : ∃ v, w5.cell? ⟨g, t * 13 + 10, none⟩ = some v := ⟨_, own_rcell HR5.out hlt (by decide)⟩
      have f10 := World.ownsRow.frozenAt HR5.out (t * 13 + 10)
      obtain ⟨u11, q11⟩ : ∃ v, w5.cell? ⟨g, t * 13 + 11, none⟩ = some v := ⟨_, own_rcell HR5.out hlt (by decide)⟩
      have f11 := World.ownsRow.frozenAt HR5.out (t * 13 + 11)
      obtain ⟨u12, q12⟩ : ∃ v, w5.cell? ⟨g, t * 13 + 12, none⟩ = some v := ⟨_, own_rcell HR5.out hlt (by decide)⟩
      have f12 := World.ownsRow.frozenAt HR5.out (t * 13 + 12)
      go_wp2
      go_roundw
      case rel =>
        have e0 := HKK.out
        have S4 := own_rec HR5.out t 4 (.int .i64 (((kB S k0 t + 3 + (S t).lgn : Nat) : Int))) (by simp only [setC_at, List.length_set]; rfl) (by decide)
        have S5 := own_rec S4 t 5 (.int .i64 (((kB S k0 t + 3 + (S t).lgn : Nat) : Int) + 1)) (by simp only [setC_at, List.length_set]; rfl) (by decide)
        have S6 := own_rec S5 t 6 (.int .i64 (((kB S k0 t + 3 + (S t).lgn : Nat) : Int) + 1 + 1)) (by simp only [setC_at, List.length_set]; rfl) (by decide)
        have S7 := own_rec S6 t 7 (.int .i64 (((kB S k0 t + 3 + (S t).lgn : Nat) : Int) + 1 + 1 + 1)) (by simp only [setC_at, List.length_set]; rfl) (by decide)
        have S8 := own_rec S7 t 8 (.bool ((((kB S k0 t + 3 + (S t).lgn : Nat) : Int) + 1 + 1 + 1 + 1) % 3 == 0)) (by simp only [setC_at, List.length_set]; rfl) (by decide)
        have S9 := own_rec S8 t 9 (.int .i64 (((kB S k0 t + 3 + (S t).lgn : Nat) : Int) + 1 + 1 + 1 + 1 + 1)) (by simp only [setC_at, List.length_set]; rfl) (by decide)
        have S10 := own_rec S9 t 10 (.int .i64 (((kB S k0 t + 3 + (S t).lgn : Nat) : Int) + 1 + 1 + 1 + 1 + 1 + 1)) (by simp only [setC_at, List.length_set]; rfl) (by decide)
        have S11 := own_rec S10 t 11 (.int .i64 (((kB S k0 t + 3 + (S t).lgn : Nat) : Int) + 1 + 1 + 1 + 1 + 1 + 1 + 1)) (by simp only [setC_at, List.length_set]; rfl) (by decide)
        have S12 := own_rec S11 t 12 (.int .i64 (((kB S k0 t + 3 + (S t).lgn : Nat) : Int) + 1 + 1 + 1 + 1 + 1 + 1 + 1 + 1)) (by simp only [setC_at, List.length_set]; rfl) (by decide)
        have hkF := ((((((((((Kept.refl w5 (fun b => b = g)).set (a := ⟨g, t * 13 + 4, none⟩) rfl (.int .i64 (((kB S k0 t + 3 + (S t).lgn : Nat) : Int)))).set (a := ⟨g, t * 13 + 5, none⟩) rfl (.int .i64 (((kB S k0 t + 3 + (S t).lgn : Nat) : Int) + 1))).set (a := ⟨g, t * 13 + 6, none⟩) rfl (.int .i64 (((kB S k0 t + 3 + (S t).lgn : Nat) : Int) + 1 + 1))).set (a := ⟨g, t * 13 + 7, none⟩) rfl (.int .i64 (((kB S k0 t + 3 + (S t).lgn : Nat) : Int) + 1 + 1 + 1))).set (a := ⟨g, t * 13 + 8, none⟩) rfl (.bool ((((kB S k0 t + 3 + (S t).lgn : Nat) : Int) + 1 + 1 + 1 + 1) % 3 == 0))).set (a := ⟨g, t * 13 + 9, none⟩) rfl (.int .i64 (((kB S k0 t + 3 + (S t).lgn : Nat) : Int) + 1 + 1 + 1 + 1 + 1))).set (a := ⟨g, t * 13 + 10, none⟩) rfl (.int .i64 (((kB S k0 t + 3 + (S t).lgn : Nat) : Int) + 1 + 1 + 1 + 1 + 1 + 1))).set (a := ⟨g, t * 13 + 11, none⟩) rfl (.int .i64 (((kB S k0 t + 3 + (S t).lgn : Nat) : Int) + 1 + 1 + 1 + 1 + 1 + 1 + 1))).set (a := ⟨g, t * 13 + 12, none⟩) rfl (.int .i64 (((kB S k0 t + 3 + (S t).lgn : Nat) : Int) + 1 + 1 + 1 + 1 + 1 + 1 + 1 + 1)))
        have apL : ∀ i, i < N → i ≠ t → ∀ b, (L i).ownBlock = some b → (L t).ownBlock ≠ some b := fun i hi hne b h1 h2 => by
          rcases Nat.lt_or_gt_of_ne hne with h | h
          · exact HO.out.apart i t h hlt b h1 h2
          · exact HO.out.apart t i h hi b h2 h1
        rw [HEL.out] at apL
        refine ⟨t + 1, kB S k0 (t + 1), by omega, by go_num, ?_, rfl, ⟨own_recs S12 (by decide) (fun i hi => ?_), fun i hi => ?_, HO.out.apart⟩, ?_⟩
        · congr 1
          show _ = ((kB S k0 t + (12 + (S t).lgn) : Nat) : Int)
          (try unfold wrap64); omega
        · by_cases e : i = t
          · subst e
            simp only [setC_at]
            unfold bkC
            rw [mixB_lt (show i < i + 1 by omega), mixB_ge (show ¬ i < i by omega)]
            simp only [List.set_cons_zero, List.set_cons_succ, mB]
            rw [e0]
            simp only [List.cons.injEq, Value.int.injEq, true_and, and_true]
            refine ⟨by omega, by omega, by omega, by omega, ?_, by omega, by omega, by omega, by omega⟩
            rw [show ((kB S k0 i + 3 + (S i).lgn : Nat) : Int) + 1 + 1 + 1 + 1 = ((kB S k0 i + 7 + (S i).lgn : Nat) : Int) by omega]
          · simp only [setC_ne _ _ _ e]
            unfold bkC
            rw [mixB_other e]
        · by_cases e : i = t
          · subst e
            rw [mixB_lt (by omega), HEL.out]
            exact hkF.own HL5.out (fun b hb e => own_apart HR5.out HL5.out (by decide) b ((rowg b).2 e) hb)
          · rw [mixB_other e]
            have a1 := HO.out.legs i hi
            have a4 := HKC.out.own a1 (fun b hb e => own_apart HO.out.row a1 (by decide) b ((rowg b).2 e) hb)
            have a5 := HK5.out.own a4 (fun b hb e2 => apL i hi e b hb e2)
            exact hkF.own a5 (fun b hb e => own_apart HR5.out a5 (by decide) b ((rowg b).2 e) hb)
        · exact HKP.out.trans ((HKC.out.mono (fun b e => .inl ((rowg b).2 e))).trans ((HK5.out.mono (fun b e => .inr ⟨t, hlt, by rw [HEL.out]; exact e⟩)).trans (hkF.mono (fun b e => .inl ((rowg b).2 e)))))
      case measure => simp [intOf]; omega
    · obtain rfl : t = N := by omega
      have HO : Hid _ := hO
      clear hO
      go_wp2
      go_ret
      refine ⟨by rw [HKK.out]; rfl, ?_, hk⟩
      exact HO.out.congr (fun i hi => mixB_lt hi)
end Go.Proofs.YtlelckbeoclhbaaGreat

namespace Go.Proofs.YtlelckbeoclhbaaGreat
open Go.RowKit
theorem eqRow_same (a0 : Int) (a1 : ByteArray) (a2 : Int) (a3 : Int) (a4 : Int) (w : World) :
    Calls Tryz.prog 127 #[.agg #[.int .i64 a0, .string a1, .int .i64 a2, .int .i64 a3, .int .i64 a4], .agg #[.int .i64 a0, .string a1, .int .i64 a2, .int .i64 a3, .int .i64 a4]] w fun e w' => e = .returned (.bool true) ∧ Below w.heap.size w w' := by
  go_enter Tryz.func127, Tryz.ntmps127
  go_wp2
  go_ret
  exact ⟨rfl, push (push (Below.refl _ _) _) _⟩
theorem eqRowS_same (ao bo : Option Addr) (n c1 c2 : Nat) (S : Nat → MRow) (w : World) (hn : n ≤ 2097152) (hx : MRowsAt w ao n S) (hy : MRowsAt w bo n S) :
    Calls Tryz.prog 71 #[.slice ao n c1, .slice bo n c2] w fun e w' => e = .returned (.bool true) ∧ Below w.heap.size w w' := by
  go_enter Tryz.func71, Tryz.ntmps71
  go_wp2
  go_loopw [5] (fun i wr => ∃ k : Nat, k ≤ n ∧ i = .int .i64 k ∧ Below w.heap.size w wr) (fun i _ => n - (intOf i).toNat)
  case atStart => exact ⟨0, Nat.zero_le _, rfl, Below.refl _ _⟩
  case round =>
    obtain ⟨k, hk, rfl, hbel⟩ := hrel
    by_cases hlt : k < n
    · obtain ⟨b, off, rfl, h0, h1, h2, h3, h4⟩ := hx k (by omega)
      obtain ⟨b2, off2, rfl, g0, g1, g2, g3, g4⟩ := hy k (by omega)
      have hb := World.block_lt_of_cell? w _ h0
      have hb2 := World.block_lt_of_cell? w _ g0
      have c0 := (hbel.cell (p := ⟨b, off + k * 5, none⟩) hb).trans h0
      have d0 := (hbel.cell (p := ⟨b2, off2 + k * 5, none⟩) hb2).trans g0
      have c1 := (hbel.cell (p := ⟨b, off + k * 5 + 1, none⟩) hb).trans h1
      have d1 := (hbel.cell (p := ⟨b2, off2 + k * 5 + 1, none⟩) hb2).trans g1
      have c2 := (hbel.cell (p := ⟨b, off + k * 5 + 2, none⟩) hb).trans h2
      have d2 := (hbel.cell (p := ⟨b2, off2 + k * 5 + 2, none⟩) hb2).trans g2
      have c3 := (hbel.cell (p := ⟨b, off + k * 5 + 3, none⟩) hb).trans h3
      have d3 := (hbel.cell (p := ⟨b2, off2 + k * 5 + 3, none⟩) hb2).trans g3
      have c4 := (hbel.cell (p := ⟨b, off + k * 5 + 4, none⟩) hb).trans h4
      have d4 := (hbel.cell (p := ⟨b2, off2 + k * 5 + 4, none⟩) hb2).trans g4
      clear h0 g0 h1 g1 h2 g2 h3 g3 h4 g4
      have hbw : b < wr.heap.size := Nat.lt_of_lt_of_le hb hbel.size
      have hbw2 : b2 < wr.heap.size := Nat.lt_of_lt_of_le hb2 hbel.size
      have i1 : (0 : Int) ≤ (k : Int) := by omega
      have i2 : (k : Int) < (n : Int) := by omega
      go_wp2
      go_region_held3 (fun w' => w'.cell? ⟨b, off + k * 5, none⟩ = some (.int .i64 (S k).name) ∧ w'.cell? ⟨b, off + k * 5 + 1, none⟩ = some (.string (S k).own) ∧ w'.cell? ⟨b, off + k * 5 + 2, none⟩ = some (.int .i64 (S k).pe) ∧ w'.cell? ⟨b, off + k * 5 + 3, none⟩ = some (.int .i64 (S k).ln) ∧ w'.cell? ⟨b, off + k * 5 + 4, none⟩ = some (.int .i64 (S k).cab) ∧ w'.cell? ⟨b2, off2 + k * 5, none⟩ = some (.int .i64 (S k).name) ∧ w'.cell? ⟨b2, off2 + k * 5 + 1, none⟩ = some (.string (S k).own) ∧ w'.cell? ⟨b2, off2 + k * 5 + 2, none⟩ = some (.int .i64 (S k).pe) ∧ w'.cell? ⟨b2, off2 + k * 5 + 3, none⟩ = some (.int .i64 (S k).ln) ∧ w'.cell? ⟨b2, off2 + k * 5 + 4, none⟩ = some (.int .i64 (S k).cab))
        (first | exact ⟨c0, c1, c2, c3, c4, d0, d1, d2, d3, d4⟩ | exact ⟨(hbb.cell hbw).trans c0, (hbb.cell hbw).trans c1, (hbb.cell hbw).trans c2, (hbb.cell hbw).trans c3, (hbb.cell hbw).trans c4, (hbb.cell hbw2).trans d0, (hbb.cell hbw2).trans d1, (hbb.cell hbw2).trans d2, (hbb.cell hbw2).trans d3, (hbb.cell hbw2).trans d4⟩)
        (first | (go_at_call 127; refine (eqRow_same _ _ _ _ _ _).mono ?_; rintro e w2 ⟨rfl, hbb⟩))
      go_wp2
      go_roundw
      case rel => exact ⟨k + 1, by omega, by go_num, after hbel.drew hbb⟩
      case measure => simp [intOf]; omega
    · go_wp2
      go_ret
      exact ⟨rfl, hbel⟩
end Go.Proofs.YtlelckbeoclhbaaGreat
