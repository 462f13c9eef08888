/-
  OWN TEXT: MarkOff, Views, ViewD, ViewP.
-/
import Derived.ProofKit
import Derived.OpenShut
import Derived.ChangeOld
import Derived.SizedLaws
import Derived.Deep.Slices
import Derived.Deep.Strs
import Derived.Lib.SmallJoins
import Derived.Test.YtlelckbeoclhbaaGreatRows
import Derived.Test.YtlelckbeoclhbaaGreatB32
import Derived.Test.YtlelckbeoclhbaaGreatB33
import Derived.Test.YtlelckbeoclhbaaGreatB08
import Derived.Test.YtlelckbeoclhbaaGreatB10
import Derived.Test.YtlelckbeoclhbaaGreatB35
import Derived.Test.YtlelckbeoclhbaaGreatB00
set_option maxHeartbeats 12800000
set_option maxRecDepth 100000
namespace Go.Proofs.YtlelckbeoclhbaaGreat
open Go.RowKit
theorem markOffice_own (cs : List Value) (x : Off) (lo hi : Nat) (w : World) (hs : Off.Short x 1048576) (ho : Off.In w lo hi cs x) (hh : hi ≤ w.heap.size) :
    Calls Tryz.prog 10 #[.agg cs.toArray, .int .i64 1] w fun e w' => (∃ k : Nat, e = .returned (.int .i64 k)) ∧ Kept w w' (fun b => lo ≤ b ∧ b < hi) := by
  obtain ⟨m1, m2, gsa, l, c, gld, C, gbk, E, rfl, hm, h1, h2, h3⟩ := ho
  obtain ⟨⟨n1, s1⟩, ⟨n2, s2⟩, ⟨n3, s3⟩⟩ := hs
  have hb0 : Below w.heap.size w (w.alloc (.cells #[.slice (some ⟨gsa, 0, none⟩) x.san x.san, .slice (some ⟨gld, 0, none⟩) x.ldn x.ldn, .slice (some ⟨gbk, 0, none⟩) x.bkn x.bkn] 39)) := push (Below.refl _ _) _
  have bO := heap_alloc_new w (.cells #[.slice (some ⟨gsa, 0, none⟩) x.san x.san, .slice (some ⟨gld, 0, none⟩) x.ldn x.ldn, .slice (some ⟨gbk, 0, none⟩) x.bkn x.bkn] 39)
  have hM := h1.made.mark n1 (fun i hi => (s1 i hi).2.2.1) (fun i hi => (s1 i hi).2.2.2)
  have HL : Hid (∀ i, i < x.san → (x.sa i).la.n ≤ 1048576) := fun i hi => (s1 i hi).2.2.1
  have HC : Hid (∀ i, i < x.san → (x.sa i).ca.n ≤ 1048576) := fun i hi => (s1 i hi).2.2.2
  have HLH : Hid (∀ i, i < x.san → c i < m1) := fun i hi => (h1.lh i hi).2
  have gl := h1.made.lo
  have gh := h1.gh
  have H2 : Hid (LoadsTo w x.ldn m1 m2 gld x.ldn x.ld C) := h2
  have H3 : Hid (BooksTo w x.bkn m2 hi gbk x.bkn x.bk E) := h3
  have HM : Hid (MarkIs w lo gsa x.san (fun i => (x.sa i).la.n) (fun i => (x.sa i).ca.n) l c) := hM
  have HS2 : Hid (LoadsShort x.ldn x.ld 1048576) := s2
  have HS3 : Hid (BooksShort x.bkn x.bk 1048576) := s3
  clear h1 h2 h3 s1 s2 s3 hM
  show Calls Tryz.prog 10 #[.agg #[.slice (some ⟨gsa, 0, none⟩) x.san x.san, .slice (some ⟨gld, 0, none⟩) x.ldn x.ldn, .slice (some ⟨gbk, 0, none⟩) x.bkn x.bkn], .int .i64 1] w _
  go_enter Tryz.func10, Tryz.ntmps10
  go_wp2_with fail
  generalize w.alloc (.cells #[.slice (some ⟨gsa, 0, none⟩) x.san x.san, .slice (some ⟨gld, 0, none⟩) x.ldn x.ldn, .slice (some ⟨gbk, 0, none⟩) x.bkn x.bkn] 39) = V0 at hb0 bO ⊢
  refine (markSailingS_own gsa x.san m1 lo 1 _ _ l c V0 n1 (by omega) HL.out HC.out gh HLH.out (HM.out.below hb0)).mono ?_
  rintro e V1 ⟨⟨k1, hk1, rfl⟩, kp1⟩
  have kq1 : Kept w V1 (fun b => lo ≤ b ∧ b < m1) := (Kept.of_below hb0).trans (kp1.mono (fun b e => by have e : gsa ≤ b ∧ b < m1 := e; exact ⟨by omega, e.2⟩))
  have bO1 := kp1.blk bO (by omega)
  have q1 := blk_cell bO1 1 _ rfl
  go_wp2_with fail
  refine (markLoadS_own gld x.ldn m1 m2 k1 x.ld C V1 n2 hk1 HS2.out (H2.out.kept kq1 (fun b e => by omega))).mono ?_
  rintro e V2 ⟨⟨k2, hk2, rfl⟩, kp2⟩
  have kq2 : Kept w V2 (fun b => lo ≤ b ∧ b < m2) := (kq1.mono (fun b e => by have e : lo ≤ b ∧ b < m1 := e; exact ⟨by omega, by omega⟩)).trans (kp2.mono (fun b e => by have e : m1 ≤ b ∧ b < m2 := e; exact ⟨by omega, by omega⟩))
  have bO2 := kp2.blk bO1 (by omega)
  have q2 := blk_cell bO2 2 _ rfl
  clear q1 bO1 kq1 kp1 kp2 bO
  go_wp2_with fail
  refine (markBookingS_own gbk x.bkn m2 hi k2 x.bk E V2 n3 hk2 HS3.out (H3.out.kept kq2 (fun b e => by omega))).mono ?_
  rintro e V3 ⟨⟨k3, rfl⟩, kp3⟩
  have kq3 : Kept w V3 (fun b => lo ≤ b ∧ b < hi) := (kq2.mono (fun b e => by have e : lo ≤ b ∧ b < m2 := e; exact ⟨by omega, by omega⟩)).trans (kp3.mono (fun b e => by have e : m2 ≤ b ∧ b < hi := e; exact ⟨by omega, by omega⟩))
  go_wp2
  go_ret
  exact ⟨⟨k3, rfl⟩, kq3⟩
end Go.Proofs.YtlelckbeoclhbaaGreat

namespace Go.Proofs.YtlelckbeoclhbaaGreat
open Go.ChangeShapes Go.WideShapes Go.ChangeAt Go.RowKit Go.Deep
section
variable {H : Type} {enc : TypeId × Value → H} {P : Program} {w : World} {base : Nat} {spare : Nat → Bool} {held : Bool}
def LenIs (d : DataW H) (n : Nat) : Prop := (d = .nil ∧ n = 0) ∨ ∃ els rest, d = .slice els rest ∧ els.length = n
theorem view_ints {t e fuel : Nat} {v : Value} {x : DataW H × List MemPlace} (ht : P.underlying t = some (.slice e)) (he : P.underlying e = some (.int .i64)) (hc : P.cellsOf e = 1)
    (h : DataW.trod enc P w base spare held fuel t [v] = some x) :
    ∃ ao n cap F, v = .slice ao n cap ∧ n ≤ cap ∧ cap ≤ maxLen ∧ (ao = none → n = 0 ∧ cap = 0) ∧ IntsAt w ao n F ∧ LenIs x.1 n := by
  rcases open_ints ht he hc h with ⟨hcs, hx⟩ | ⟨a, n, cap, zs, hcs, _, hl, hm, hz, hx, hcell, _⟩
  · simp at hcs
    subst hcs
    refine ⟨none, 0, 0, fun _ => 0, rfl, Nat.le_refl _, Nat.zero_le _, fun _ => ⟨rfl, rfl⟩, fun k hk => by omega, .inl ⟨by rw [hx], rfl⟩⟩
  · simp at hcs
    subst hcs
    have hzl : n ≤ zs.length := by rw [hz]; split <;> omega
    refine ⟨some a, n, cap, fun k => zs.getD k 0, rfl, hl, hm, (fun h => by cases h), (fun k hk => ?_), .inr ⟨_, _, by rw [hx], by simp [lits]; omega⟩⟩
    obtain ⟨b, off, rfl, hc2⟩ := ints_at hcell (by omega)
    exact ⟨b, off, rfl, hc2 k (by omega)⟩
theorem view_slots {t e fuel ti tb : Nat} {f0 f1 f2 : Field} {v : Value} {x : DataW H × List MemPlace} (ht : P.underlying t = some (.slice e)) (he : P.underlying e = some (.struct #[f0, f1, f2])) (hc : P.cellsOf e = 3)
    (t0 : f0.type = ti) (t1 : f1.type = tb) (t2 : f2.type = ti) (o0 : f0.offset = 0) (o1 : f1.offset = 1) (o2 : f2.offset = 2)
    (hi : P.underlying ti = some (.int .i64)) (hb : P.underlying tb = some .bool) (ci : P.cellsOf ti = 1) (cb : P.cellsOf tb = 1)
    (h : DataW.trod enc P w base spare held fuel t [v] = some x) :
    ∃ ao n cap A U V, v = .slice ao n cap ∧ n ≤ cap ∧ cap ≤ maxLen ∧ (ao = none → n = 0 ∧ cap = 0) ∧ SlotsAt w ao n A U V ∧ LenIs x.1 n := by
  rcases open_slice ht h with ⟨hcs, hx⟩ | ⟨a, n, cap, m, fl, D, Pl, hcs, _, hl, hm, hmm, hx, hcell⟩
  · simp at hcs
    subst hcs
    refine ⟨none, 0, 0, fun _ => 0, fun _ => false, fun _ => 0, rfl, Nat.le_refl _, Nat.zero_le _, fun _ => ⟨rfl, rfl⟩, fun k hk => by omega, .inl ⟨by rw [hx], rfl⟩⟩
  · simp at hcs
    subst hcs
    have hnm : n ≤ m := by rw [hmm]; split <;> omega
    by_cases hn0 : n = 0
    · subst hn0
      exact ⟨some a, 0, cap, fun _ => 0, fun _ => false, fun _ => 0, rfl, hl, hm, (fun h => by cases h), (fun k hk => by omega), .inr ⟨_, _, by rw [hx], by simp⟩⟩
    have hspot : a.spot = none := by
      obtain ⟨cs, hcl, _⟩ := hcell 0 (by omega)
      rw [hc] at hcl
      obtain ⟨_, hlen, hget⟩ := World.cells?_some hcl
      have g0 := hget 0 (by omega)
      rw [List.getElem?_eq_getElem (by omega)] at g0
      have := World.cell?_spot g0
      simpa [Addr.add] using this
    obtain ⟨b, off, spot⟩ := a
    simp only at hspot
    subst hspot
    have key : ∀ k, k < n → ∃ (y : Int × Bool × Int), w.cell? ⟨b, off + k * 3, none⟩ = some (.int .i64 y.1) ∧ w.cell? ⟨b, off + k * 3 + 1, none⟩ = some (.bool y.2.1) ∧ w.cell? ⟨b, off + k * 3 + 2, none⟩ = some (.int .i64 y.2.2) := by
      intro k hk
      obtain ⟨cs, hcl, htr⟩ := hcell k (by omega)
      rw [hc] at hcl
      obtain ⟨_, hlen, hget⟩ := World.cells?_some hcl
      obtain ⟨y0, y1, y2, n', _, _, h0, h1, h2⟩ := trod_struct3 he htr
      rw [t0, o0, ci] at h0
      rw [t1, o1, cb] at h1
      rw [t2, o2, ci] at h2
      match cs, hlen with
      | [p, q, r], _ =>
        obtain ⟨i0, e0, _, _⟩ := DataW.trod_int hi h0
        obtain ⟨i1, e1, _⟩ := DataW.trod_bool hb h1
        obtain ⟨i2, e2, _, _⟩ := DataW.trod_int hi h2
        simp at e0 e1 e2
        subst e0 e1 e2
        have g0 := hget 0 (by omega)
        have g1 := hget 1 (by omega)
        have g2 := hget 2 (by omega)
        simp only [List.getElem?_cons_zero, List.getElem?_cons_succ, Addr.add_lit, Nat.add_zero] at g0 g1 g2
        exact ⟨(i0, i1, i2), g0, g1, g2⟩
    obtain ⟨f, hf⟩ := choose_lt key
    exact ⟨some ⟨b, off, none⟩, n, cap, fun k => (f k).1, fun k => (f k).2.1, fun k => (f k).2.2, rfl, hl, hm, (fun h => by cases h), (fun k hk => ⟨b, off, rfl, hf k hk⟩), .inr ⟨_, _, by rw [hx], by simp⟩⟩
theorem len_reach {t e n : Nat} {d : DataW H} {bytes : Nat} (ht : P.underlying t = some (.slice e)) (hb : P.bytesOf e = bytes) (hd : LenIs d n) (hw : ∀ x ∈ DataW.weights P t d, x ≤ reachBytes) : n * bytes ≤ reachBytes := by
  rcases hd with ⟨_, rfl⟩ | ⟨els, rest, rfl, rfl⟩
  · omega
  · have := hw ((els.length + rest.length) * P.bytesOf e) (by simp [DataW.weights, ht])
    rw [hb] at this
    exact Nat.le_trans (Nat.mul_le_mul_right _ (Nat.le_add_right _ _)) this
end
end Go.Proofs.YtlelckbeoclhbaaGreat

namespace Go.Proofs.YtlelckbeoclhbaaGreat
open Go.ChangeShapes Go.WideShapes Go.ChangeAt Go.RowKit Go.Deep Go.Joins
theorem weightsAll_mem {H : Type} {P : Program} {e : Nat} {x : Nat} : ∀ {l : List (DataW H)} {d : DataW H}, d ∈ l → x ∈ DataW.weights P e d → x ∈ DataW.weightsAll P e l := by
  intro l
  induction l with
  | nil => intro d h; cases h
  | cons a l ih =>
    intro d h hx
    rw [DataW.weightsAll, List.mem_append]
    rcases List.mem_cons.1 h with rfl | h
    · exact .inl hx
    · exact .inr (ih h hx)
section
variable {H : Type} {enc : TypeId × Value → H} {P : Program} {w : World} {base : Nat} {held : Bool}
theorem view_list {t e fuel sz bytes : Nat} {v : Value} {x : DataW H × List MemPlace} (ht : P.underlying t = some (.slice e)) (hc : P.cellsOf e = sz) (h0 : 0 < sz) (hby : P.bytesOf e = bytes)
    (h : DataW.trod enc P w base (fun _ => true) held fuel t [v] = some x) (hw : ∀ y ∈ DataW.weights P t x.1, y ≤ reachBytes) :
    ∃ ao n cap C, v = .slice ao n cap ∧ RecsAt w ao n sz C ∧ n ≤ cap ∧ (ao = none → n = 0 ∧ cap = 0) ∧ cap * bytes ≤ reachBytes ∧
      ∀ k, k < n → (C k).length = sz ∧ ∃ fl z, DataW.trod enc P w base (fun _ => true) held fl e (C k) = some z ∧ ∀ y ∈ DataW.weights P e z.1, y ≤ reachBytes := by
  rcases open_slice ht h with ⟨hcs, hx⟩ | ⟨a, n, cap, m, fl, D, Pl, hcs, _, hl, hm, hmm, hx, hcell⟩
  · simp at hcs
    subst hcs
    exact ⟨none, 0, 0, fun _ => [], rfl, fun k hk => absurd hk (Nat.not_lt_zero _), Nat.le_refl _, fun _ => ⟨rfl, rfl⟩, by omega, fun k hk => absurd hk (Nat.not_lt_zero _)⟩
  · simp at hcs
    subst hcs
    rw [if_pos rfl] at hmm
    subst hmm
    have hcap : m * bytes ≤ reachBytes := by
      have := hw ((n + (m - n)) * P.bytesOf e) (by rw [hx]; simp [DataW.weights, ht])
      rw [hby, show n + (m - n) = m by omega] at this
      exact this
    by_cases hn0 : n = 0
    · subst hn0
      exact ⟨some a, 0, m, fun _ => [], rfl, fun k hk => absurd hk (Nat.not_lt_zero _), hl, (fun h => by cases h), hcap, fun k hk => absurd hk (Nat.not_lt_zero _)⟩
    have hspot : a.spot = none := by
      obtain ⟨cs, hcl, _⟩ := hcell 0 (by omega)
      rw [hc] at hcl
      obtain ⟨_, hlen, hget⟩ := World.cells?_some hcl
      have g0 := hget 0 (by omega)
      rw [List.getElem?_eq_getElem (by omega)] at g0
      have := World.cell?_spot g0
      simpa [Addr.add] using this
    obtain ⟨b, off, spot⟩ := a
    simp only at hspot
    subst hspot
    have key : ∀ k, k < n → ∃ cs : List Value, (cs.length = sz ∧ ∀ j, j < sz → w.cell? ⟨b, off + k * sz + j, none⟩ = some (cs.getD j (.bool false))) ∧ ∃ fl z, DataW.trod enc P w base (fun _ => true) held fl e cs = some z ∧ ∀ y ∈ DataW.weights P e z.1, y ≤ reachBytes := by
      intro k hk
      obtain ⟨cs, hcl, htr⟩ := hcell k (by omega)
      rw [hc] at hcl
      obtain ⟨_, hlen, hget⟩ := World.cells?_some hcl
      refine ⟨cs, ⟨hlen, fun j hj => ?_⟩, _, _, htr, fun y hy => ?_⟩
      · have g := hget j hj
        rw [List.getElem?_eq_getElem (by omega)] at g
        rw [List.getD_eq_getElem?_getD, List.getElem?_eq_getElem (by omega)]
        simp only [Addr.add_lit] at g
        exact g
      · refine hw y ?_
        have h1 : D k ∈ (List.range n).map D := List.mem_map.2 ⟨k, List.mem_range.2 hk, rfl⟩
        have h2 := weightsAll_mem h1 hy
        rw [hx]
        simp [DataW.weights, ht, h2]
    obtain ⟨C, hC⟩ := choose_lt key
    exact ⟨some ⟨b, off, none⟩, n, m, C, rfl, fun k hk => ⟨b, off, rfl, (hC k hk).1.2⟩, hl, (fun h => by cases h), hcap, fun k hk => ⟨(hC k hk).1.1, (hC k hk).2⟩⟩
theorem trod_struct3' {t : TypeId} {f0 f1 f2 : Field} {fuel : Nat} {spare : Nat → Bool} {cs : List Value} {x : DataW H × List MemPlace} (ht : P.underlying t = some (.struct #[f0, f1, f2])) (h : DataW.trod enc P w base spare held fuel t cs = some x) :
    ∃ y0 y1 y2 n, x.1 = .agg [y0.1, y1.1, y2.1] ∧ cs.length = P.cellsOf t ∧ DataW.trod enc P w base spare held n f0.type ((cs.drop f0.offset).take (P.cellsOf f0.type)) = some y0 ∧
      DataW.trod enc P w base spare held n f1.type ((cs.drop f1.offset).take (P.cellsOf f1.type)) = some y1 ∧ DataW.trod enc P w base spare held n f2.type ((cs.drop f2.offset).take (P.cellsOf f2.type)) = some y2 := by
  obtain ⟨xs, n, _, rfl, hl, hlen, hf⟩ := DataW.trod_struct ht h
  match xs, hlen with
  | [y0, y1, y2], _ => exact ⟨y0, y1, y2, n, by simp, hl, by simpa using hf 0 f0 rfl, by simpa using hf 1 f1 rfl, by simpa using hf 2 f2 rfl⟩
end
end Go.Proofs.YtlelckbeoclhbaaGreat

namespace Go.Proofs.YtlelckbeoclhbaaGreat
open Go.ChangeShapes Go.WideShapes Go.ChangeAt Go.RowKit Go.Deep Go.Joins
section
variable {H : Type} {enc : TypeId × Value → H} {P : Program} {w : World} {base : Nat} {spare : Nat → Bool} {held : Bool}
theorem view_pairs {t e fuel ti bytes : Nat} {f0 f1 : Field} {v : Value} {x : DataW H × List MemPlace} (ht : P.underlying t = some (.slice e)) (he : P.underlying e = some (.struct #[f0, f1])) (hc : P.cellsOf e = 2)
    (t0 : f0.type = ti) (t1 : f1.type = ti) (o0 : f0.offset = 0) (o1 : f1.offset = 1)
    (hi : P.underlying ti = some (.int .i64)) (ci : P.cellsOf ti = 1) (hby : P.bytesOf e = bytes)
    (h : DataW.trod enc P w base (fun _ => true) held fuel t [v] = some x) (hw : ∀ y ∈ DataW.weights P t x.1, y ≤ reachBytes) :
    ∃ ao cap l, v = .slice ao l.n cap ∧ PairsAt w ao l ∧ l.n ≤ cap ∧ (ao = none → l.n = 0 ∧ cap = 0) ∧ cap * bytes ≤ reachBytes := by
  rcases open_slice ht h with ⟨hcs, hx⟩ | ⟨a, n, cap, m, fl, D, Pl, hcs, _, hl, hm, hmm, hx, hcell⟩
  · simp at hcs
    subst hcs
    exact ⟨none, 0, ⟨0, fun _ => 0, fun _ => 0⟩, rfl, fun k hk => absurd hk (Nat.not_lt_zero _), Nat.le_refl _, fun _ => ⟨rfl, rfl⟩, by omega⟩
  · simp at hcs
    subst hcs
    rw [if_pos rfl] at hmm
    subst hmm
    have hcap : m * bytes ≤ reachBytes := by
      have := hw ((n + (m - n)) * P.bytesOf e) (by rw [hx]; simp [DataW.weights, ht])
      rw [hby, show n + (m - n) = m by omega] at this
      exact this
    by_cases hn0 : n = 0
    · subst hn0
      exact ⟨some a, m, ⟨0, fun _ => 0, fun _ => 0⟩, rfl, fun k hk => absurd hk (Nat.not_lt_zero _), hl, (fun h => by cases h), hcap⟩
    have hspot : a.spot = none := by
      obtain ⟨cs, hcl, _⟩ := hcell 0 (by omega)
      rw [hc] at hcl
      obtain ⟨_, hlen, hget⟩ := World.cells?_some hcl
      have g0 := hget 0 (by omega)
      rw [List.getElem?_eq_getElem (by omega)] at g0
      have := World.cell?_spot g0
      simpa [Addr.add] using this
    obtain ⟨b, off, spot⟩ := a
    simp only at hspot
    subst hspot
    have key : ∀ k, k < n → ∃ (y : Int × Int), w.cell? ⟨b, off + k * 2, none⟩ = some (.int .i64 y.1) ∧ w.cell? ⟨b, off + k * 2 + 1, none⟩ = some (.int .i64 y.2) := by
      intro k hk
      obtain ⟨cs, hcl, htr⟩ := hcell k (by omega)
      rw [hc] at hcl
      obtain ⟨_, hlen, hget⟩ := World.cells?_some hcl
      obtain ⟨y0, y1, n', _, _, h0, h1⟩ := trod_struct2 he htr
      rw [t0, o0, ci] at h0
      rw [t1, o1, ci] at h1
      match cs, hlen with
      | [p, q], _ =>
        obtain ⟨i0, e0, _, _⟩ := DataW.trod_int hi h0
        obtain ⟨i1, e1, _, _⟩ := DataW.trod_int hi h1
        simp at e0 e1
        subst e0 e1
        have g0 := hget 0 (by omega)
        have g1 := hget 1 (by omega)
        simp only [List.getElem?_cons_zero, List.getElem?_cons_succ, Addr.add_lit, Nat.add_zero] at g0 g1
        exact ⟨(i0, i1), g0, g1⟩
    obtain ⟨f, hf⟩ := choose_lt key
    exact ⟨some ⟨b, off, none⟩, m, ⟨n, fun k => (f k).1, fun k => (f k).2⟩, rfl, fun k hk => ⟨b, off, rfl, hf k hk⟩, hl, (fun h => by cases h), hcap⟩
end
theorem Tryz.own : ownKnob Tryz.prog.godebug = none := by kernel_rfl
theorem Tryz.laidOut : laidOutB Tryz.prog = true := by kernel_rfl
theorem Tryz.cellsInt : Tryz.prog.cellsOf 3 = 1 := by kernel_rfl
theorem Tryz.cellsBool : Tryz.prog.cellsOf 4 = 1 := by kernel_rfl
theorem okWide_slice_is {P : Program} {t e : Nat} {w : World} {r : Reach} {base : Nat} {v : Value} (ht : P.underlying t = some (.slice e)) (h : Value.okWide P w r base t v) : v.cells.toList = [v] := by
  simp only [Value.okWide, ht, Cell.okWide] at h
  cases v <;> simp_all [Cell.ok, Value.cells]
end Go.Proofs.YtlelckbeoclhbaaGreat
