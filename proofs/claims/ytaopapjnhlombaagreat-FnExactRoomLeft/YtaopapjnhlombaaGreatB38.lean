/-
  OWN TEXT: MarkBk, MarkOff, LawLeft.
-/
import Derived.Deep.RegionHeld3
import Derived.Test.YtaopapjnhlombaaGreatB09
import Derived.Test.YtaopapjnhlombaaGreatB36
import Derived.Test.YtaopapjnhlombaaGreatB37
import Derived.Test.YtaopapjnhlombaaGreatB10
import Derived.Test.YtaopapjnhlombaaGreatB34
import Derived.Test.YtaopapjnhlombaaGreatB07
namespace Go.Proofs.YtaopapjnhlombaaGreat
open Go.RowKit

/-- A row of N bookings in the block g, whose legs lie in blocks behind g. -/
structure BMark (w : World) (base g N : Nat) (n l : Nat → Nat) : Prop where
  ord : ∀ i, i < N → g < l i
  row : ∃ f, w.ownsRow base 87 13 (.slice (some ⟨g, 0, none⟩) N N) N ((List.range (N * 13)).map f) ∧ ∀ i, i < N → f (i * 13 + 3) = whole (l i) (n i)
  legs : ∀ i, i < N → IntRow w base (l i) (n i)

section
variable {w w' : World} {base g N : Nat} {n l : Nat → Nat}
theorem BMark.cell (h : BMark w base g N n l) (j : Nat) (hj : j < N * 13) : ∃ v, w.cell? ⟨g, j, none⟩ = some v := by
  obtain ⟨f, hf, _⟩ := h.row
  exact ⟨_, own_cell hf j hj rfl⟩
theorem BMark.ice (h : BMark w base g N n l) (j : Nat) : w.frozen? ⟨g, j, none⟩ = false := by
  obtain ⟨f, hf, _⟩ := h.row
  exact hf.frozenAt j
theorem BMark.leg (h : BMark w base g N n l) {t : Nat} (ht : t < N) : w.cell? ⟨g, t * 13 + 3, none⟩ = some (.slice (some ⟨l t, 0, none⟩) (n t) (n t)) := by
  obtain ⟨f, hf, h5⟩ := h.row
  rw [own_cell hf (t * 13 + 3) (by omega) rfl, h5 t ht]; rfl
theorem BMark.below (h : BMark w base g N n l) (hb : Below w.heap.size w w') : BMark w' base g N n l := by
  refine ⟨h.ord, ?_, fun i hi => ?_⟩
  · obtain ⟨f, hf, h5⟩ := h.row; exact ⟨f, own_below hb hf, h5⟩
  · exact (h.legs i hi).kept (Kept.of_below (S := fun _ => False) hb) (fun h => h)
theorem BMark.put (h : BMark w base g N n l) (j : Nat) (h5 : j % 13 ≠ 3) (u : Value) : BMark (w.setCell ⟨g, j, none⟩ u) base g N n l := by
  have hk : Kept w (w.setCell ⟨g, j, none⟩ u) (fun b => b = g) := (Kept.refl w (fun b => b = g)).set (a := ⟨g, j, none⟩) rfl u
  refine ⟨h.ord, ?_, fun i hi => ?_⟩
  · obtain ⟨f, hf, hx⟩ := h.row
    refine ⟨_, own_store hf j u, fun i hi => ?_⟩
    rw [if_neg (by omega)]
    exact hx i hi
  · exact (h.legs i hi).kept hk (fun e => by have := h.ord i hi; omega)
theorem BMark.mark (h : BMark w base g N n l) {t : Nat} (ht : t < N) (hk : Kept w w' (fun b => b = l t)) (ho : IntRow w' base (l t) (n t)) : BMark w' base g N n l := by
  refine ⟨h.ord, ?_, fun i hi => ?_⟩
  · obtain ⟨f, hf, hx⟩ := h.row
    exact ⟨f, hk.own hf (fun b hb e => by simp only [Value.ownBlock, Option.some.injEq] at hb; have := h.ord t ht; omega), hx⟩
  · exact (h.legs i hi).after (h.legs t ht) hk (by omega) (fun _ => rfl) (fun _ e => by rw [e]; exact ho)
end

set_option maxHeartbeats 3200000 in
set_option maxRecDepth 100000 in
theorem markBookingS_own (g N lo hi k0 : Nat) (S : Nat → Book) (C : Nat → List Value) (w : World) (hN : N ≤ 1048576) (hk0 : k0 ≤ 30000000000000) (hs : BooksShort N S 1048576) (ho : BooksTo w N lo hi g N S C) :
    Calls Tryz.prog 38 #[.slice (some ⟨g, 0, none⟩) N N, .int .i64 k0] w fun e w' => (∃ k : Nat, e = .returned (.int .i64 k)) ∧ Kept w w' (fun b => lo ≤ b ∧ b < hi) := by
  have key : ∀ i, i < N → ∃ q : Nat, (g < q ∧ q < hi) ∧ (C i).getD 3 (.bool false) = whole q (S i).lgn ∧ IntRow w lo q (S i).lgn := by
    intro i hi'
    obtain ⟨a, e, ha⟩ := ho.each i hi'
    have sh := hs i hi'
    have gl := ho.glo
    unfold Book.Short at sh
    exact ⟨a, ⟨Nat.lt_of_succ_le ha.1, ha.2.1⟩, by rw [e]; rfl, ⟨_, ⟨_, rfl⟩, by have := own_of_row (size := 1) (n := (S i).lgn) (by rw [Nat.mul_one]; exact ha.2.2) (Nat.le_trans (Nat.le_succ_of_le gl) ha.1) (by unfold maxLen; omega); rw [Nat.mul_one] at this; exact this⟩⟩
  obtain ⟨l, hp⟩ := Go.Deep.choose_lt key
  have hM0 : BMark w lo g N (fun i => (S i).lgn) l := by
    refine ⟨fun i hi' => (hp i hi').1.1, ⟨_, own_of_row ho.row ho.glo (by unfold maxLen; omega), fun i hi' => ?_⟩, fun i hi' => (hp i hi').2.2⟩
    rw [recCell_at 13 _ i 3 (by omega), upto_lt _ _ hi', (hp i hi').2.1]
  have HP : Hid (∀ i, i < N → (S i).lgn ≤ 1048576 ∧ g < l i ∧ l i < hi) := fun i hi' => ⟨(hs i hi').2, (hp i hi').1⟩
  have hgl := ho.glo
  have hgh := ho.ghi
  clear hs ho key hp
  go_enter Tryz.func38, Tryz.ntmps38
  go_wp2
  go_loopw [1, 5] (fun q i wr => ∃ t k : Nat, t ≤ N ∧ i = .int .i64 t ∧ q = .int .i64 k ∧ k ≤ 30000000000000 + t * 1048600 ∧ BMark wr lo g N (fun i => (S i).lgn) l ∧ Kept w wr (fun b => g ≤ b ∧ b < hi)) (fun _ i _ => N - (intOf i).toNat)
  case atStart => exact ⟨0, k0, Nat.zero_le _, rfl, rfl, by omega, hM0, Kept.refl _ _⟩
  case round =>
    obtain ⟨t, k, ht, rfl, rfl, hkk, hM, hk⟩ := hrel
    by_cases hlt : t < N
    · obtain ⟨n1, b1, b2⟩ := HP.out t hlt
      obtain ⟨v0, hc0⟩ := hM.cell (t * 13) (by omega)
      obtain ⟨v1, hc1⟩ := hM.cell (t * 13 + 1) (by omega)
      have hf0 := hM.ice (t * 13)
      have hf1 := hM.ice (t * 13 + 1)
      go_wp2_with fail
      refine (markText_int _ _ (by omega) (by omega)).mono ?_
      rintro e w2 ⟨⟨s, rfl⟩, hb2⟩
      have hM2 := ((hM.put (t * 13) (by omega) (.int .i64 k)).put (t * 13 + 1) (by omega) (.int .i64 (k + 1))).below hb2
      have hk2 := ((hk.set (a := ⟨g, t * 13, none⟩) ⟨Nat.le_refl g, hgh⟩ (.int .i64 k)).set (a := ⟨g, t * 13 + 1, none⟩) ⟨Nat.le_refl g, hgh⟩ (.int .i64 (k + 1))).trans (Kept.of_below hb2)
      clear hM hk hc0 hf0 hc1 hf1 hb2
      obtain ⟨v2, hc2⟩ := hM2.cell (t * 13 + 2) (by omega)
      have hf2 := hM2.ice (t * 13 + 2)
      have hc3 := hM2.leg hlt
      have hM3 := hM2.put (t * 13 + 2) (by omega) (.string s)
      have hk3 := hk2.set (a := ⟨g, t * 13 + 2, none⟩) ⟨Nat.le_refl g, hgh⟩ (.string s)
      go_wp2_with fail
      have r1 : IntRow (w2.setCell ⟨g, t * 13 + 2, none⟩ (.string s)) lo (l t) (S t).lgn := hM3.legs t hlt
      refine (markInt_row n1 (by omega) (by omega) r1).mono ?_
      rintro e w4 ⟨rfl, o4, k4⟩
      have hM4 := hM3.mark hlt k4 o4
      have hk4 := hk3.trans (k4.mono (fun b e => by have e : b = l t := e; exact ⟨by omega, by omega⟩))
      clear hM2 hk2 hM3 hk3 hc2 hf2 hc3 r1 o4 k4 w2
      obtain ⟨v4, hc4⟩ := hM4.cell (t * 13 + 4) (by omega)
      have hf4 := hM4.ice (t * 13 + 4)
      obtain ⟨v5, hc5⟩ := hM4.cell (t * 13 + 5) (by omega)
      have hf5 := hM4.ice (t * 13 + 5)
      obtain ⟨v6, hc6⟩ := hM4.cell (t * 13 + 6) (by omega)
      have hf6 := hM4.ice (t * 13 + 6)
      obtain ⟨v7, hc7⟩ := hM4.cell (t * 13 + 7) (by omega)
      have hf7 := hM4.ice (t * 13 + 7)
      obtain ⟨v8, hc8⟩ := hM4.cell (t * 13 + 8) (by omega)
      have hf8 := hM4.ice (t * 13 + 8)
      obtain ⟨v9, hc9⟩ := hM4.cell (t * 13 + 9) (by omega)
      have hf9 := hM4.ice (t * 13 + 9)
      obtain ⟨v10, hc10⟩ := hM4.cell (t * 13 + 10) (by omega)
      have hf10 := hM4.ice (t * 13 + 10)
      obtain ⟨v11, hc11⟩ := hM4.cell (t * 13 + 11) (by omega)
      have hf11 := hM4.ice (t * 13 + 11)
      obtain ⟨v12, hc12⟩ := hM4.cell (t * 13 + 12) (by omega)
      have hf12 := hM4.ice (t * 13 + 12)
      go_wp2
      go_roundw
      case rel => exact ⟨t + 1, k + 12 + (S t).lgn, by omega, by go_num, by go_num, by omega, ((((((((hM4.put (t * 13 + 4) (by omega) _).put (t * 13 + 5) (by omega) _).put (t * 13 + 6) (by omega) _).put (t * 13 + 7) (by omega) _).put (t * 13 + 8) (by omega) _).put (t * 13 + 9) (by omega) _).put (t * 13 + 10) (by omega) _).put (t * 13 + 11) (by omega) _).put (t * 13 + 12) (by omega) _, ((((((((hk4.set (a := ⟨g, t * 13 + 4, none⟩) ⟨Nat.le_refl g, hgh⟩ _).set (a := ⟨g, t * 13 + 5, none⟩) ⟨Nat.le_refl g, hgh⟩ _).set (a := ⟨g, t * 13 + 6, none⟩) ⟨Nat.le_refl g, hgh⟩ _).set (a := ⟨g, t * 13 + 7, none⟩) ⟨Nat.le_refl g, hgh⟩ _).set (a := ⟨g, t * 13 + 8, none⟩) ⟨Nat.le_refl g, hgh⟩ _).set (a := ⟨g, t * 13 + 9, none⟩) ⟨Nat.le_refl g, hgh⟩ _).set (a := ⟨g, t * 13 + 10, none⟩) ⟨Nat.le_refl g, hgh⟩ _).set (a := ⟨g, t * 13 + 11, none⟩) ⟨Nat.le_refl g, hgh⟩ _).set (a := ⟨g, t * 13 + 12, none⟩) ⟨Nat.le_refl g, hgh⟩ _⟩
      case measure => simp [intOf]; omega
    · obtain rfl : t = N := by omega
      go_wp2
      go_ret
      exact ⟨⟨k, rfl⟩, hk.mono (fun b e => by have e : g ≤ b ∧ b < hi := e; exact ⟨by omega, by omega⟩)⟩

end Go.Proofs.YtaopapjnhlombaaGreat

namespace Go.Proofs.YtaopapjnhlombaaGreat
open Go.RowKit

set_option maxHeartbeats 1600000 in
set_option maxRecDepth 100000 in
theorem markOffice_own (cs : List Value) (x : Off) (lo hi : Nat) (w : World) (hs : Off.Short x 1048576) (ho : Off.In w lo hi cs x) (hh : hi ≤ w.heap.size) :
    Calls Tryz.prog 11 #[.agg cs.toArray, .int .i64 1] w fun e w' => (∃ k : Nat, e = .returned (.int .i64 k)) ∧ Kept w w' (fun b => lo ≤ b ∧ b < hi) := by
  obtain ⟨m1, m2, gsa, l, c, gld, C, gbk, E, rfl, hm, h1, h2, h3⟩ := ho
  obtain ⟨⟨n1, s1⟩, ⟨n2, s2⟩, ⟨n3, s3⟩⟩ := hs
  have hb0 : Below w.heap.size w (w.alloc (.cells #[.slice (some ⟨gsa, 0, none⟩) x.san x.san, .slice (some ⟨gld, 0, none⟩) x.ldn x.ldn, .slice (some ⟨gbk, 0, none⟩) x.bkn x.bkn] 35)) := push (Below.refl _ _) _
  have bO := heap_alloc_new w (.cells #[.slice (some ⟨gsa, 0, none⟩) x.san x.san, .slice (some ⟨gld, 0, none⟩) x.ldn x.ldn, .slice (some ⟨gbk, 0, none⟩) x.bkn x.bkn] 35)
  have hM := h1.made.mark n1 (fun i hi => (s1 i hi).2.2.1) (fun i hi => (s1 i hi).2.2.2)
  have HL : Hid (∀ i, i < x.san → (x.sa i).la.n ≤ 1048576) := fun i hi => (s1 i hi).2.2.1
  have HC : Hid (∀ i, i < x.san → (x.sa i).ca.n ≤ 1048576) := fun i hi => (s1 i hi).2.2.2
  have HLH : Hid (∀ i, i < x.san → c i < m1) := fun i hi => (h1.lh i hi).2
  have gl := h1.made.lo
  have gh := h1.gh
  have H2 : Hid (LoadsTo w x.ldn m1 m2 gld x.ldn x.ld C) := h2
  have H3 : Hid (BooksTo w x.bkn m2 hi gbk x.bkn x.bk E) := h3
  have HM : Hid (MarkIs w lo gsa x.san (fun i => (x.sa i).la.n) (fun i => (x.sa i).ca.n) l c) := hM
  have HS2 : Hid (LoadsShort x.ldn x.ld 1048576) := s2
  have HS3 : Hid (BooksShort x.bkn x.bk 1048576) := s3
  clear h1 h2 h3 s1 s2 s3 hM
  show Calls Tryz.prog 11 #[.agg #[.slice (some ⟨gsa, 0, none⟩) x.san x.san, .slice (some ⟨gld, 0, none⟩) x.ldn x.ldn, .slice (some ⟨gbk, 0, none⟩) x.bkn x.bkn], .int .i64 1] w _
  go_enter Tryz.func11, Tryz.ntmps11
  go_wp2_with fail
  generalize w.alloc (.cells #[.slice (some ⟨gsa, 0, none⟩) x.san x.san, .slice (some ⟨gld, 0, none⟩) x.ldn x.ldn, .slice (some ⟨gbk, 0, none⟩) x.bkn x.bkn] 35) = V0 at hb0 bO ⊢
  refine (markSailingS_own gsa x.san m1 lo 1 _ _ l c V0 n1 (by omega) HL.out HC.out gh HLH.out (HM.out.below hb0)).mono ?_
  rintro e V1 ⟨⟨k1, hk1, rfl⟩, kp1⟩
  have kq1 : Kept w V1 (fun b => lo ≤ b ∧ b < m1) := (Kept.of_below hb0).trans (kp1.mono (fun b e => by have e : gsa ≤ b ∧ b < m1 := e; exact ⟨by omega, e.2⟩))
  have bO1 := kp1.blk bO (by omega)
  have q1 := blk_cell bO1 1 _ rfl
  go_wp2_with fail
  refine (markLoadS_own gld x.ldn m1 m2 k1 x.ld C V1 n2 hk1 HS2.out (H2.out.kept kq1 (fun b e => by omega))).mono ?_
  rintro e V2 ⟨⟨k2, hk2, rfl⟩, kp2⟩
  have kq2 : Kept w V2 (fun b => lo ≤ b ∧ b < m2) := (kq1.mono (fun b e => by have e : lo ≤ b ∧ b < m1 := e; exact ⟨by omega, by omega⟩)).trans (kp2.mono (fun b e => by have e : m1 ≤ b ∧ b < m2 := e; exact ⟨by omega, by omega⟩))
  have bO2 := kp2.blk bO1 (by omega)
  have q2 := blk_cell bO2 2 _ rfl
  clear q1 bO1 kq1 kp1 kp2 bO
  go_wp2_with fail
  refine (markBookingS_own gbk x.bkn m2 hi k2 x.bk E V2 n3 hk2 HS3.out (H3.out.kept kq2 (fun b e => by omega))).mono ?_
  rintro e V3 ⟨⟨k3, rfl⟩, kp3⟩
  have kq3 : Kept w V3 (fun b => lo ≤ b ∧ b < hi) := (kq2.mono (fun b e => by have e : lo ≤ b ∧ b < m2 := e; exact ⟨by omega, by omega⟩)).trans (kp3.mono (fun b e => by have e : m2 ≤ b ∧ b < hi := e; exact ⟨by omega, by omega⟩))
  go_wp2
  go_ret
  exact ⟨⟨k3, rfl⟩, kq3⟩

end Go.Proofs.YtaopapjnhlombaaGreat

namespace Go.Proofs.YtaopapjnhlombaaGreat
open Go.RowKit

set_option maxHeartbeats 6400000 in
set_option maxRecDepth 100000 in
theorem lawRoomLeft (cs : List Value) (x : Off) (z : Int) (w : World) (hs : Off.Short x 1000000000000000) (hi : Off.Is w cs x) :
    Calls Tryz.prog 3 #[.agg cs.toArray, .int .i64 z] w fun e w' => e = .returned (.bool true) ∧ Below w.heap.size w w' := by
  have HI : Hid (Off.Is w cs x) := hi
  obtain ⟨asa, csa, ald, cld, abk, cbk, rfl, h1, s1, h2, s2, h3, s3⟩ := hi
  clear h1 s1 h2 s2 h3 s3
  have HS : Hid (Off.Short x 1000000000000000) := hs
  clear hs
  have HB : Below w.heap.size w (w.alloc (.cells #[.slice asa x.san csa, .slice ald x.ldn cld, .slice abk x.bkn cbk] 26)) := push (Below.refl _ _) _
  have A := heap_alloc_new w (.cells #[.slice asa x.san csa, .slice ald x.ldn cld, .slice abk x.bkn cbk] 26)
  have HAW : Hid (w.heap.size < (w.alloc (.cells #[.slice asa x.san csa, .slice ald x.ldn cld, .slice abk x.bkn cbk] 26)).heap.size) := by show w.heap.size < (w.alloc (.cells #[.slice asa x.san csa, .slice ald x.ldn cld, .slice abk x.bkn cbk] 26)).heap.size; simp
  go_enter Tryz.func3, Tryz.ntmps3
  go_wp2_with fail
  generalize w.alloc (.cells #[.slice asa x.san csa, .slice ald x.ldn cld, .slice abk x.bkn cbk] 26) = wA at HB A HAW ⊢
  refine (szOffice_any [.slice asa x.san csa, .slice ald x.ldn cld, .slice abk x.bkn cbk] x _ HS.out (HI.out.below HB)).mono ?_
  rintro e w1 ⟨r, rfl, hr, hb⟩
  have HS1 : Hid (wA.heap.size ≤ w1.heap.size) := hb.size
  replace A := blk_below A hb
  replace HB := after HB hb
  clear hb
  rcases hr with rfl | ⟨r0, _, ht⟩
  · go_wp2
    go_ret
    exact ⟨rfl, HB⟩
  have d0 : decide (r < 0) = false := by simpa using r0
  have HT : Hid (Off.Short x 1048576) := ht
  clear ht HS
  obtain ⟨N1, hN1⟩ : ∃ q : Nat, q = lN1 x z := ⟨_, rfl⟩
  obtain ⟨N2, hN2⟩ : ∃ q : Nat, q = lN2 x z := ⟨_, rfl⟩
  have b1 : N1 ≤ 1048576 := by rw [hN1]; exact lN1_le z HT.out
  have b2 : N2 ≤ 1048576 := by rw [hN2]; exact lN2_le z HT.out
  obtain ⟨F1, hF1⟩ : ∃ q : Nat → Int, q = lF1 x z := ⟨_, rfl⟩
  obtain ⟨F2, hF2⟩ : ∃ q : Nat → Int, q = lF2 x z := ⟨_, rfl⟩
  obtain ⟨M, hM⟩ : ∃ q : Int, q = lM x z := ⟨_, rfl⟩
  obtain ⟨ok, hok⟩ : ∃ q : Bool, q = lOk x z := ⟨_, rfl⟩
  have HU : Hid (∀ b e W, LeftU x z b 3 e W → ∃ v1 v2, e = .returned (.tuple #[v1, v2, .int .i64 M, .bool ok]) ∧ W.ownsRow b 3 1 v1 N1 (intList F1 N1) ∧ W.ownsRow b 3 1 v2 N2 (intList F2 N2)) := by rw [hN1, hN2, hF1, hF2, hM, hok]; exact fun b e W h => h
  have HV : Hid (∀ b e W, LeftV x z b 3 e W → ∃ v1 v2, e = .returned (.tuple #[v1, v2, .int .i64 M, .bool ok]) ∧ W.ownsRow b 3 1 v1 N1 (intList F1 N1) ∧ W.ownsRow b 3 1 v2 N2 (intList F2 N2) ∧ ∀ b, v1.ownBlock = some b → v2.ownBlock ≠ some b) := by rw [hN1, hN2, hF1, hF2, hM, hok]; exact fun b e W h => h
  clear hN1 hN2 hF1 hF2 hM hok
  have q0 := blk_cell A 0 _ rfl
  have q1 := blk_cell A 1 _ rfl
  have q2 := blk_cell A 2 _ rfl
  go_wp2_with fail
  refine (toOffice_any [.slice asa x.san csa, .slice ald x.ldn cld, .slice abk x.bkn cbk] x _ HT.out (HI.out.below HB)).mono ?_
  rintro e w2 ⟨cs2, rfl, hin, hb⟩
  have HS2 : Hid (w1.heap.size ≤ w2.heap.size) := hb.size
  clear q0 q1 q2
  replace A := blk_below A hb
  replace HB := after HB hb
  clear hb
  have is2 := hin.is HT.out
  clear hin
  go_wp2_with fail
  refine (specLeft_any cs2 x z _ HT.out is2).mono ?_
  rintro e w3 ⟨hu, hb⟩
  obtain ⟨u1, u2, rfl, vw1, vw2⟩ := HU.out _ _ _ (leftU_of hu)
  have HS3 : Hid (w2.heap.size ≤ w3.heap.size) := hb.size
  clear hu is2
  replace A := blk_below A hb
  replace HB := after HB hb
  clear hb
  obtain ⟨aw1, cw1, rfl, _⟩ := own_form vw1
  have HWL1 : Hid (∀ b, (Value.slice aw1 N1 cw1).ownBlock = some b → w.heap.size ≤ b ∧ b < w3.heap.size) := fun b hb => by have := (World.ownsRow.lt vw1 b hb); have := HAW.out; have := HS1.out; have := HS2.out; exact ⟨by omega, by omega⟩
  obtain ⟨aw2, cw2, rfl, _⟩ := own_form vw2
  have HWL2 : Hid (∀ b, (Value.slice aw2 N2 cw2).ownBlock = some b → w.heap.size ≤ b ∧ b < w3.heap.size) := fun b hb => by have := (World.ownsRow.lt vw2 b hb); have := HAW.out; have := HS1.out; have := HS2.out; exact ⟨by omega, by omega⟩
  have q0 := blk_cell A 0 _ rfl
  have q1 := blk_cell A 1 _ rfl
  have q2 := blk_cell A 2 _ rfl
  go_wp2_with fail
  refine (toOffice_any [.slice asa x.san csa, .slice ald x.ldn cld, .slice abk x.bkn cbk] x _ HT.out (HI.out.below HB)).mono ?_
  rintro e w4 ⟨cs4, rfl, hin4, hb⟩
  have HS4 : Hid (w3.heap.size ≤ w4.heap.size) := hb.size
  clear q0 q1 q2
  replace A := blk_below A hb
  replace HB := after HB hb
  replace vw1 := own_below hb vw1
  replace vw2 := own_below hb vw2
  clear hb
  have HIN4 : Hid (Off.In w4 w3.heap.size w4.heap.size cs4 x) := hin4
  obtain ⟨m1, m2, gsa, l, c, gld, C, gbk, E, rfl, _, _, _, _⟩ := hin4
  unfold whole
  have hb : Below w4.heap.size w4 (w4.alloc (.cells #[.slice (some ⟨gsa, 0, none⟩) x.san x.san, .slice (some ⟨gld, 0, none⟩) x.ldn x.ldn, .slice (some ⟨gbk, 0, none⟩) x.bkn x.bkn] 35)) := push (Below.refl _ _) _
  have X := heap_alloc_new w4 (.cells #[.slice (some ⟨gsa, 0, none⟩) x.san x.san, .slice (some ⟨gld, 0, none⟩) x.ldn x.ldn, .slice (some ⟨gbk, 0, none⟩) x.bkn x.bkn] 35)
  have IN : Off.In (w4.alloc (.cells #[.slice (some ⟨gsa, 0, none⟩) x.san x.san, .slice (some ⟨gld, 0, none⟩) x.ldn x.ldn, .slice (some ⟨gbk, 0, none⟩) x.bkn x.bkn] 35)) w3.heap.size w4.heap.size [.slice (some ⟨gsa, 0, none⟩) x.san x.san, .slice (some ⟨gld, 0, none⟩) x.ldn x.ldn, .slice (some ⟨gbk, 0, none⟩) x.bkn x.bkn] x := HIN4.out.below hb
  have HS5 : Hid (w4.heap.size < (w4.alloc (.cells #[.slice (some ⟨gsa, 0, none⟩) x.san x.san, .slice (some ⟨gld, 0, none⟩) x.ldn x.ldn, .slice (some ⟨gbk, 0, none⟩) x.bkn x.bkn] 35)).heap.size) := by show w4.heap.size < (w4.alloc (.cells #[.slice (some ⟨gsa, 0, none⟩) x.san x.san, .slice (some ⟨gld, 0, none⟩) x.ldn x.ldn, .slice (some ⟨gbk, 0, none⟩) x.bkn x.bkn] 35)).heap.size; simp
  replace A := blk_below A hb
  replace HB := after HB hb
  replace vw1 := own_below hb vw1
  replace vw2 := own_below hb vw2
  clear hb HIN4
  go_wp2_with fail
  generalize w4.alloc (.cells #[.slice (some ⟨gsa, 0, none⟩) x.san x.san, .slice (some ⟨gld, 0, none⟩) x.ldn x.ldn, .slice (some ⟨gbk, 0, none⟩) x.bkn x.bkn] 35) = w5 at A HB X IN vw1 vw2 HS5 ⊢
  refine (implLeft_any [.slice (some ⟨gsa, 0, none⟩) x.san x.san, .slice (some ⟨gld, 0, none⟩) x.ldn x.ldn, .slice (some ⟨gbk, 0, none⟩) x.bkn x.bkn] x z _ HT.out (IN.is HT.out)).mono ?_
  rintro e w6 ⟨hu, hb⟩
  obtain ⟨g1, g2, rfl, vg1, vg2, hap⟩ := HV.out _ _ _ hu
  clear hu
  have HS6 : Hid (w5.heap.size ≤ w6.heap.size) := hb.size
  replace A := blk_below A hb
  replace X := blk_below X hb
  replace HB := after HB hb
  replace IN := IN.below hb
  replace vw1 := own_below hb vw1
  replace vw2 := own_below hb vw2
  clear hb
  obtain ⟨ag1, cg1, rfl, _⟩ := own_form vg1
  obtain ⟨ag2, cg2, rfl, _⟩ := own_form vg2
  have HGL1 : Hid (∀ b, (Value.slice ag1 N1 cg1).ownBlock = some b → w5.heap.size ≤ b) := fun b hb => (World.ownsRow.lt vg1 b hb).1
  have HGL2 : Hid (∀ b, (Value.slice ag2 N2 cg2).ownBlock = some b → w5.heap.size ≤ b) := fun b hb => (World.ownsRow.lt vg2 b hb).1
  have HAP : Hid (∀ b, (Value.slice ag1 N1 cg1).ownBlock = some b → (Value.slice ag2 N2 cg2).ownBlock ≠ some b) := hap
  clear hap
  go_wp2_with fail
  refine (eqIntS_same ag1 aw1 N1 cg1 cw1 F1 _ b1 (own_ints vg1) (own_ints vw1)).mono ?_
  rintro e w71 ⟨rfl, hb⟩
  replace A := blk_below A hb
  replace X := blk_below X hb
  replace HB := after HB hb
  replace IN := IN.below hb
  replace vw1 := own_below hb vw1
  replace vw2 := own_below hb vw2
  replace vg1 := own_below hb vg1
  replace vg2 := own_below hb vg2
  clear hb
  go_wp2_with fail
  refine (eqIntS_same ag2 aw2 N2 cg2 cw2 F2 _ b2 (own_ints vg2) (own_ints vw2)).mono ?_
  rintro e w72 ⟨rfl, hb⟩
  replace A := blk_below A hb
  replace X := blk_below X hb
  replace HB := after HB hb
  replace IN := IN.below hb
  replace vw1 := own_below hb vw1
  replace vw2 := own_below hb vw2
  replace vg1 := own_below hb vg1
  replace vg2 := own_below hb vg2
  clear hb
  have hne : ((M != M) = false) ∧ ((ok != ok) = false) := ⟨by simp, by simp⟩
  obtain ⟨hne1, hne2⟩ := hne
  go_upto_region 10 with fail
  have KS : Hid (∀ w', Below w72.heap.size w72 w' → ((w'.cell? ⟨w.heap.size, 0, none⟩ = some (.slice asa x.san csa) ∧ w'.cell? ⟨w.heap.size, 1, none⟩ = some (.slice ald x.ldn cld) ∧ w'.cell? ⟨w.heap.size, 2, none⟩ = some (.slice abk x.bkn cbk)) ∧ (w'.cell? ⟨w4.heap.size, 0, none⟩ = some (.slice (some ⟨gsa, 0, none⟩) x.san x.san) ∧ w'.cell? ⟨w4.heap.size, 1, none⟩ = some (.slice (some ⟨gld, 0, none⟩) x.ldn x.ldn) ∧ w'.cell? ⟨w4.heap.size, 2, none⟩ = some (.slice (some ⟨gbk, 0, none⟩) x.bkn x.bkn)))) := fun w' h => by
    have g1 := blk_below A h
    have g2 := blk_below X h
    exact ⟨⟨blk_cell g1 0 _ rfl, blk_cell g1 1 _ rfl, blk_cell g1 2 _ rfl⟩, ⟨blk_cell g2 0 _ rfl, blk_cell g2 1 _ rfl, blk_cell g2 2 _ rfl⟩⟩
  have BW : Hid (∀ w', Below w72.heap.size w72 w' → Below w.heap.size w w') := fun w' h => after HB h
  have HIN : Hid (∀ w', Below w72.heap.size w72 w' → Off.Is w' [.slice (some ⟨gsa, 0, none⟩) x.san x.san, .slice (some ⟨gld, 0, none⟩) x.ldn x.ldn, .slice (some ⟨gbk, 0, none⟩) x.bkn x.bkn] x) := fun w' h => (IN.is HT.out).below h
  go_region_held3 (fun w' => (w'.cell? ⟨w.heap.size, 0, none⟩ = some (.slice asa x.san csa) ∧ w'.cell? ⟨w.heap.size, 1, none⟩ = some (.slice ald x.ldn cld) ∧ w'.cell? ⟨w.heap.size, 2, none⟩ = some (.slice abk x.bkn cbk)) ∧ (w'.cell? ⟨w4.heap.size, 0, none⟩ = some (.slice (some ⟨gsa, 0, none⟩) x.san x.san) ∧ w'.cell? ⟨w4.heap.size, 1, none⟩ = some (.slice (some ⟨gld, 0, none⟩) x.ldn x.ldn) ∧ w'.cell? ⟨w4.heap.size, 2, none⟩ = some (.slice (some ⟨gbk, 0, none⟩) x.bkn x.bkn)))
    ((refine KS.out _ ?_; exact (by repeat (first | exact Below.refl _ _ | refine Below.drew ?_ | refine after ?_ hb9 | refine after ?_ hb8))))
    (first | (go_at_call 7; refine Calls.mono (toOffice_any [.slice asa x.san csa, .slice ald x.ldn cld, .slice abk x.bkn cbk] x _ HT.out (HI.out.below (BW.out _ (by repeat (first | exact Below.refl _ _ | refine Below.drew ?_ | refine after ?_ hb9 | refine after ?_ hb8))))) ?_; rintro e w8 ⟨cs8, rfl, hin8, hb8⟩) | (go_at_call 10; refine Calls.mono (eqOffice_same [.slice (some ⟨gsa, 0, none⟩) x.san x.san, .slice (some ⟨gld, 0, none⟩) x.ldn x.ldn, .slice (some ⟨gbk, 0, none⟩) x.bkn x.bkn] cs8 x _ HT.out (HIN.out _ (by repeat (first | exact Below.refl _ _ | refine Below.drew ?_ | refine after ?_ hb9 | refine after ?_ hb8))) ((hin8.is HT.out).below (by repeat (first | exact Below.refl _ _ | refine Below.drew ?_ | refine after ?_ hb9 | refine after ?_ hb8)))) ?_; rintro e w9 ⟨rfl, hb9⟩))
  have hb : Below w72.heap.size w72 w9 := (by repeat (first | exact Below.refl _ _ | refine Below.drew ?_ | refine after ?_ hb9 | refine after ?_ hb8))
  clear hin8 hb8 hb9 KS BW HIN
  replace A := blk_below A hb
  replace X := blk_below X hb
  replace HB := after HB hb
  replace IN := IN.below hb
  replace vw1 := own_below hb vw1
  replace vw2 := own_below hb vw2
  replace vg1 := own_below hb vg1
  replace vg2 := own_below hb vg2
  clear hb
  have x0 := blk_cell X 0 _ rfl
  have x1 := blk_cell X 1 _ rfl
  have x2 := blk_cell X 2 _ rfl
  go_wp2_with fail
  have HS9 : Hid (w.heap.size < w3.heap.size) := by have := HAW.out; have := HS1.out; have := HS2.out; have := HS3.out; show w.heap.size < w3.heap.size; omega
  refine (markOffice_own [.slice (some ⟨gsa, 0, none⟩) x.san x.san, .slice (some ⟨gld, 0, none⟩) x.ldn x.ldn, .slice (some ⟨gbk, 0, none⟩) x.bkn x.bkn] x w3.heap.size w4.heap.size w9 HT.out IN (by have := blk_lt X; omega)).mono ?_
  rintro e w10 ⟨⟨k, rfl⟩, kp⟩
  clear x0 x1 x2
  have HKX : Hid (∀ b, (w3.heap.size ≤ b ∧ b < w4.heap.size) → w3.heap.size ≤ b ∧ b < w4.heap.size) := fun b h => h
  replace A := kp.blk A (fun e => by have := HKX.out _ e; have := HS9.out; omega)
  replace HB := Kept.below HB HB.size kp (fun b e => by have := HKX.out _ e; have := HS9.out; omega)
  replace vw1 := kp.own vw1 (fun b hb e => by have := HKX.out _ e; have := HWL1.out b hb; omega)
  replace vg1 := kp.own vg1 (fun b hb e => by have := HKX.out _ e; have := HGL1.out b hb; have := HS5.out; omega)
  replace vw2 := kp.own vw2 (fun b hb e => by have := HKX.out _ e; have := HWL2.out b hb; omega)
  replace vg2 := kp.own vg2 (fun b hb e => by have := HKX.out _ e; have := HGL2.out b hb; have := HS5.out; omega)
  clear kp IN X
  have dk : decide ((k : Int) < 0) = false := by simp
  go_wp2_with fail
  refine (eqIntS_same ag1 aw1 N1 cg1 cw1 F1 _ b1 (own_ints vg1) (own_ints vw1)).mono ?_
  rintro e w111 ⟨rfl, hb⟩
  replace A := blk_below A hb
  replace HB := after HB hb
  replace vw1 := own_below hb vw1
  replace vw2 := own_below hb vw2
  replace vg1 := own_below hb vg1
  replace vg2 := own_below hb vg2
  clear hb
  go_wp2_with fail
  refine (eqIntS_same ag2 aw2 N2 cg2 cw2 F2 _ b2 (own_ints vg2) (own_ints vw2)).mono ?_
  rintro e w112 ⟨rfl, hb⟩
  replace A := blk_below A hb
  replace HB := after HB hb
  replace vw1 := own_below hb vw1
  replace vw2 := own_below hb vw2
  replace vg1 := own_below hb vg1
  replace vg2 := own_below hb vg2
  clear hb
  go_wp2_with fail
  refine (markIntS_own ag1 N1 cg1 _ F1 1 _ (by omega) (by omega) (by omega) vg1).mono ?_
  rintro e w12 ⟨rfl, vm1, kp⟩
  have HGK1 : Hid (∀ b, (∃ g, ag1 = some ⟨g, 0, none⟩ ∧ b = g) → (Value.slice ag1 N1 cg1).ownBlock = some b) := by
    rintro b ⟨g, e1, e2⟩
    rw [e1, e2]; rfl
  replace A := kp.blk A (fun e => by have := HGL1.out _ (HGK1.out _ e); have := HS9.out; have := HS4.out; have := HS5.out; omega)
  replace HB := Kept.below HB HB.size kp (fun b e => by have := HGL1.out _ (HGK1.out _ e); have := HS9.out; have := HS4.out; have := HS5.out; omega)
  replace vw1 := kp.own vw1 (fun b hb e => by have := HGL1.out _ (HGK1.out _ e); have := HWL1.out b hb; have := HS4.out; have := HS5.out; omega)
  replace vw2 := kp.own vw2 (fun b hb e => by have := HGL1.out _ (HGK1.out _ e); have := HWL2.out b hb; have := HS4.out; have := HS5.out; omega)
  replace vg2 := kp.own vg2 (fun b hb e => HAP.out b (HGK1.out _ e) hb)
  clear kp vg1
  go_wp2_with fail
  refine (markIntS_own ag2 N2 cg2 _ F2 _ _ (by omega) (by omega) (by omega) vg2).mono ?_
  rintro e w13 ⟨rfl, vm2, kp⟩
  have HGK2 : Hid (∀ b, (∃ g, ag2 = some ⟨g, 0, none⟩ ∧ b = g) → (Value.slice ag2 N2 cg2).ownBlock = some b) := by
    rintro b ⟨g, e1, e2⟩
    rw [e1, e2]; rfl
  replace A := kp.blk A (fun e => by have := HGL2.out _ (HGK2.out _ e); have := HS9.out; have := HS4.out; have := HS5.out; omega)
  replace HB := Kept.below HB HB.size kp (fun b e => by have := HGL2.out _ (HGK2.out _ e); have := HS9.out; have := HS4.out; have := HS5.out; omega)
  replace vw1 := kp.own vw1 (fun b hb e => by have := HGL2.out _ (HGK2.out _ e); have := HWL1.out b hb; have := HS4.out; have := HS5.out; omega)
  replace vw2 := kp.own vw2 (fun b hb e => by have := HGL2.out _ (HGK2.out _ e); have := HWL2.out b hb; have := HS4.out; have := HS5.out; omega)
  replace vm1 := kp.own vm1 (fun b hb e => HAP.out b hb (HGK2.out _ e))
  clear kp vg2
  have dm1 : decide ((1 : Int) + (N1 : Int) < 0) = false := by simp; omega
  have dm2 : decide ((1 : Int) + (N1 : Int) + (N2 : Int) < 0) = false := by simp; omega
  go_wp2_with fail
  refine (heldIntS_yes ag1 N1 cg1 1 _ (by omega) (by omega) (by omega) (own_ints vm1)).mono ?_
  rintro e w' ⟨rfl, hw'⟩
  have hwx := hw'.symm
  clear hw'
  subst hwx
  go_wp2_with fail
  refine (heldIntS_yes ag2 N2 cg2 _ _ (by omega) (by omega) (by omega) (own_ints vm2)).mono ?_
  rintro e w' ⟨rfl, hw'⟩
  have hwx := hw'.symm
  clear hw'
  subst hwx
  have q0 := blk_cell A 0 _ rfl
  have q1 := blk_cell A 1 _ rfl
  have q2 := blk_cell A 2 _ rfl
  go_wp2_with fail
  refine (toOffice_any [.slice asa x.san csa, .slice ald x.ldn cld, .slice abk x.bkn cbk] x _ HT.out (HI.out.below HB)).mono ?_
  rintro e w14 ⟨cs14, rfl, hin, hb⟩
  clear q0 q1 q2
  replace A := blk_below A hb
  replace HB := after HB hb
  replace vw1 := own_below hb vw1
  replace vw2 := own_below hb vw2
  replace vm1 := own_below hb vm1
  replace vm2 := own_below hb vm2
  clear hb
  have is14 := hin.is HT.out
  clear hin
  go_wp2_with fail
  refine (implLeft_any cs14 x z _ HT.out is14).mono ?_
  rintro e w15 ⟨hu, hb⟩
  obtain ⟨k1, k2, rfl, vk1, vk2, _⟩ := HV.out _ _ _ hu
  clear hu is14
  replace A := blk_below A hb
  replace HB := after HB hb
  replace vw1 := own_below hb vw1
  replace vw2 := own_below hb vw2
  replace vm1 := own_below hb vm1
  replace vm2 := own_below hb vm2
  clear hb
  obtain ⟨ak1, ck1, rfl, _⟩ := own_form vk1
  obtain ⟨ak2, ck2, rfl, _⟩ := own_form vk2
  go_wp2_with fail
  refine (eqIntS_same ak1 aw1 N1 ck1 cw1 F1 _ b1 (own_ints vk1) (own_ints vw1)).mono ?_
  rintro e w161 ⟨rfl, hb⟩
  replace A := blk_below A hb
  replace HB := after HB hb
  replace vw1 := own_below hb vw1
  replace vw2 := own_below hb vw2
  replace vm1 := own_below hb vm1
  replace vm2 := own_below hb vm2
  replace vk1 := own_below hb vk1
  replace vk2 := own_below hb vk2
  clear hb
  go_wp2_with fail
  refine (eqIntS_same ak2 aw2 N2 ck2 cw2 F2 _ b2 (own_ints vk2) (own_ints vw2)).mono ?_
  rintro e w162 ⟨rfl, hb⟩
  replace A := blk_below A hb
  replace HB := after HB hb
  replace vw1 := own_below hb vw1
  replace vw2 := own_below hb vw2
  replace vm1 := own_below hb vm1
  replace vm2 := own_below hb vm2
  replace vk1 := own_below hb vk1
  replace vk2 := own_below hb vk2
  clear hb
  go_wp2_with fail
  refine (heldIntS_yes ag1 N1 cg1 1 _ (by omega) (by omega) (by omega) (own_ints vm1)).mono ?_
  rintro e w' ⟨rfl, hw'⟩
  have hwx := hw'.symm
  clear hw'
  subst hwx
  go_wp2_with fail
  refine (heldIntS_yes ag2 N2 cg2 _ _ (by omega) (by omega) (by omega) (own_ints vm2)).mono ?_
  rintro e w' ⟨rfl, hw'⟩
  have hwx := hw'.symm
  clear hw'
  subst hwx
  go_wp2
  go_ret
  exact ⟨rfl, HB⟩

end Go.Proofs.YtaopapjnhlombaaGreat
