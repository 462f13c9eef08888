/-
  OWN TEXT: LOffice, Views, ViewD.
-/
import Derived.ProofKit
import Derived.OpenShut
import Derived.ChangeOld
import Derived.SizedLaws
import Derived.Deep.Slices
import Derived.Deep.Strs
import Derived.Lib.SmallJoins
import Derived.Test.YtlnadbnoemlpeaaGreatRows
import Derived.Test.YtlnadbnoemlpeaaGreatB11
import Derived.Test.YtlnadbnoemlpeaaGreatB00
import Derived.Test.YtlnadbnoemlpeaaGreatB02
namespace Go.Proofs.YtlnadbnoemlpeaaGreat
open Go.RowKit

set_option maxHeartbeats 800000 in
theorem szOffice_any (cs : List Value) (x : Off) (w : World) (hs : Off.Short x 1000000000000000) (h : Off.Is w cs x) :
    Calls Tryz.prog 6 #[.agg cs.toArray, .int .i64 1048576] w fun e w' => ∃ r : Int, e = .returned (.int .i64 r) ∧ (r = -1 ∨ (0 ≤ r ∧ r ≤ 1048576 ∧ Off.Short x 1048576)) ∧ Below w.heap.size w w' := by
  obtain ⟨asa, csa, ald, cld, abk, cbk, rfl, h1, s1, h2, s2, h3, s3⟩ := h
  obtain ⟨⟨b1, t1⟩, ⟨b2, t2⟩, ⟨b3, t3⟩⟩ := hs
  have hb0 : Below w.heap.size w (w.alloc (.cells #[.slice asa x.san csa, .slice ald x.ldn cld, .slice abk x.bkn cbk] 26)) := push (Below.refl _ _) _
  have hA0 := heap_alloc_new w (.cells #[.slice asa x.san csa, .slice ald x.ldn cld, .slice abk x.bkn cbk] 26)
  clear s1 s2 s3
  go_enter Tryz.func6, Tryz.ntmps6
  go_wp2_with fail
  refine (szSailingS_le asa x.san csa x.sa _ b1 t1 (h1.below hb0)).mono ?_
  rintro e v1 ⟨r1, rfl, hr1, hb⟩
  have hA1 := blk_below hA0 hb
  have hb1 := after hb0 hb
  clear hA0 hb0 hb
  rcases hr1 with rfl | ⟨p1, p2, p3, p4⟩
  · go_wp2
    go_ret
    exact ⟨_, rfl, .inl rfl, hb1⟩
  · have d1 : decide (r1 < 0) = false := by simpa using p1
    have q1 := blk_cell hA1 1 _ rfl
    go_wp2_with fail
    refine (szLoadS_any ald x.ldn cld x.ld r1 _ p1 p2 b2 t2 (h2.below hb1)).mono ?_
    rintro e v2 ⟨r2, rfl, hr2, hb⟩
    have hA2 := blk_below hA1 hb
    have hb2 := after hb1 hb
    clear hA1 hb1 hb q1
    rcases hr2 with rfl | ⟨q1, q2, q3, q4⟩
    · go_wp2
      go_ret
      exact ⟨_, rfl, .inl rfl, hb2⟩
    · have d2 : decide (r2 < 0) = false := by simpa using q1
      have k2 := blk_cell hA2 2 _ rfl
      go_wp2_with fail
      refine (szBookingS_any abk x.bkn cbk x.bk r2 _ q1 (by omega) b3 t3 (h3.below hb2)).mono ?_
      rintro e v3 ⟨r3, rfl, hr3, hb⟩
      have hb3 := after hb2 hb
      clear hb2 hb k2
      rcases hr3 with rfl | ⟨u1, u2, u3, u4⟩
      · go_wp2
        go_ret
        exact ⟨_, rfl, .inl rfl, hb3⟩
      · have d3 : decide (r3 < 0) = false := by simpa using u1
        go_wp2
        go_ret
        exact ⟨_, rfl, .inr ⟨u1, by omega, ⟨p3, p4⟩, ⟨q3, q4⟩, ⟨u3, u4⟩⟩, hb3⟩

theorem off_set_0 {w : World} {g t : Nat} {u0 u1 u2 v0 : Value} (h : w.heap[g]? = some (.cells #[u0, u1, u2] t (0, 0))) : (w.setCell ⟨g, 0, none⟩ v0).heap[g]? = some (.cells #[v0, u1, u2] t (0, 0)) := by
  simpa using blk_set h 0 v0

theorem off_set_1 {w : World} {g t : Nat} {u0 u1 u2 v1 : Value} (h : w.heap[g]? = some (.cells #[u0, u1, u2] t (0, 0))) : (w.setCell ⟨g, 1, none⟩ v1).heap[g]? = some (.cells #[u0, v1, u2] t (0, 0)) := by
  simpa using blk_set h 1 v1

theorem off_set_2 {w : World} {g t : Nat} {u0 u1 u2 v2 : Value} (h : w.heap[g]? = some (.cells #[u0, u1, u2] t (0, 0))) : (w.setCell ⟨g, 2, none⟩ v2).heap[g]? = some (.cells #[u0, u1, v2] t (0, 0)) := by
  simpa using blk_set h 2 v2

theorem kept_one (w : World) (g i : Nat) (v : Value) : Kept w (w.setCell ⟨g, i, none⟩ v) (fun b => b = g) := (Kept.refl w (fun b => b = g)).set (a := ⟨g, i, none⟩) rfl v

set_option maxHeartbeats 1600000 in
set_option maxRecDepth 100000 in
theorem toOffice_any (cs : List Value) (x : Off) (w : World) (hs : Off.Short x 1048576) (h : Off.Is w cs x) :
    Calls Tryz.prog 8 #[.agg cs.toArray] w fun e w' => ∃ cs', e = .returned (.agg cs'.toArray) ∧ Off.In w' w.heap.size w'.heap.size cs' x ∧ Below w.heap.size w w' := by
  obtain ⟨asa, csa, ald, cld, abk, cbk, rfl, h1, s1, h2, s2, h3, s3⟩ := h
  obtain ⟨⟨b1, t1⟩, ⟨b2, t2⟩, ⟨b3, t3⟩⟩ := hs
  clear s1 s2 s3
  go_enter Tryz.func8, Tryz.ntmps8
  go_wp2_with fail
  obtain ⟨W0, hW0⟩ : ∃ W, W = (((w.alloc (.cells #[.slice asa x.san csa, .slice ald x.ldn cld, .slice abk x.bkn cbk] 26)).alloc (.cells #[.slice none 0 0, .slice none 0 0, .slice none 0 0] 33)).alloc (.cells #[.slice none 0 0, .slice none 0 0, .slice none 0 0] 33)) := ⟨_, rfl⟩
  have H0 : Below w.heap.size w W0 := by rw [hW0]; exact push (push (push (Below.refl _ _) _) _) _
  have A0 : W0.heap[w.heap.size]? = some (.cells #[.slice asa x.san csa, .slice ald x.ldn cld, .slice abk x.bkn cbk] 26 (0, 0)) := by rw [hW0]; exact blk_alloc (blk_alloc (heap_alloc_new w _) _) _
  have R0 : W0.heap[w.heap.size + 1]? = some (.cells #[.slice none 0 0, .slice none 0 0, .slice none 0 0] 33 (0, 0)) := by rw [hW0]; exact blk_alloc (by simpa using heap_alloc_new (w.alloc _) _) _
  have O0 : W0.heap[w.heap.size + 1 + 1]? = some (.cells #[.slice none 0 0, .slice none 0 0, .slice none 0 0] 33 (0, 0)) := by rw [hW0]; simpa using heap_alloc_new ((w.alloc _).alloc _) _
  rw [← hW0]
  clear hW0
  have gO := blk_lt O0
  refine (toSailingS_any asa x.san csa x.sa _ b1 t1 (h1.below H0)).mono ?_
  rintro e v0 ⟨gsa, ls, cc, rfl, m0, hb⟩
  have M0 := m0.high
  have Av := blk_below A0 hb
  have Rv := blk_below R0 hb
  have Ov := blk_below O0 hb
  have Hv := after H0 hb
  have sz0 := hb.size
  clear A0 R0 O0 H0 hb m0
  have qa1 := blk_cell Av 1 _ rfl
  have fo := blk_free Ov 0
  have qo0 := blk_cell Ov 0 _ rfl
  go_wp2_with fail
  clear fo qo0 qa1
  obtain ⟨W1, hW⟩ : ∃ W, W = v0.setCell ⟨w.heap.size + 1 + 1, 0, none⟩ (.slice (some ⟨gsa, 0, none⟩) x.san x.san) := ⟨_, rfl⟩
  have hk : Kept v0 W1 (fun b => b = w.heap.size + 1 + 1) := by rw [hW]; exact kept_one _ _ _ _
  have A1 := hk.blk Av (by omega)
  have R1 := hk.blk Rv (by omega)
  have O1 : W1.heap[w.heap.size + 1 + 1]? = some (.cells #[.slice (some ⟨gsa, 0, none⟩) x.san x.san, .slice none 0 0, .slice none 0 0] 33 (0, 0)) := by rw [hW]; exact off_set_0 Ov
  have H1 : Below w.heap.size w W1 := by rw [hW]; exact Hv.setCell (p := ⟨w.heap.size + 1 + 1, 0, none⟩) (by show w.heap.size ≤ w.heap.size + 1 + 1; omega) _
  have hz : W1.heap.size = v0.heap.size := by rw [hW, World.size_setCell]
  have M0' := M0.kept hk (fun b h => by left; omega)
  rw [← hW]
  rw [← hz] at M0' sz0
  clear hW hk Av Rv Ov Hv M0
  have M0 := M0'
  clear M0'
  clear hz
  refine (toLoadS_any ald x.ldn cld x.ld _ b2 t2 (h2.below H1)).mono ?_
  rintro e v1 ⟨gld, C, rfl, M1, hb⟩
  have Av := blk_below A1 hb
  have Rv := blk_below R1 hb
  have Ov := blk_below O1 hb
  have Hv := after H1 hb
  have sz1 := hb.size
  have M0' := M0.below hb
  clear A1 R1 O1 H1 hb M0
  have M0 := M0'
  clear M0'
  have qa2 := blk_cell Av 2 _ rfl
  have fo := blk_free Ov 1
  have qo1 := blk_cell Ov 1 _ rfl
  go_wp2_with fail
  clear fo qo1 qa2
  obtain ⟨W2, hW⟩ : ∃ W, W = v1.setCell ⟨w.heap.size + 1 + 1, 1, none⟩ (.slice (some ⟨gld, 0, none⟩) x.ldn x.ldn) := ⟨_, rfl⟩
  have hk : Kept v1 W2 (fun b => b = w.heap.size + 1 + 1) := by rw [hW]; exact kept_one _ _ _ _
  have A2 := hk.blk Av (by omega)
  have R2 := hk.blk Rv (by omega)
  have O2 : W2.heap[w.heap.size + 1 + 1]? = some (.cells #[.slice (some ⟨gsa, 0, none⟩) x.san x.san, .slice (some ⟨gld, 0, none⟩) x.ldn x.ldn, .slice none 0 0] 33 (0, 0)) := by rw [hW]; exact off_set_1 Ov
  have H2 : Below w.heap.size w W2 := by rw [hW]; exact Hv.setCell (p := ⟨w.heap.size + 1 + 1, 1, none⟩) (by show w.heap.size ≤ w.heap.size + 1 + 1; omega) _
  have hz : W2.heap.size = v1.heap.size := by rw [hW, World.size_setCell]
  have M0' := M0.kept hk (fun b h => by left; omega)
  have M1' := M1.kept hk (fun b h => by left; omega)
  rw [← hW]
  rw [← hz] at M1' sz1
  clear hW hk Av Rv Ov Hv M0 M1
  have M0 := M0'
  clear M0'
  have M1 := M1'
  clear M1'
  clear hz
  refine (toBookingS_any abk x.bkn cbk x.bk _ b3 t3 (h3.below H2)).mono ?_
  rintro e v2 ⟨gbk, E, rfl, M2, hb⟩
  have Av := blk_below A2 hb
  have Rv := blk_below R2 hb
  have Ov := blk_below O2 hb
  have Hv := after H2 hb
  have sz2 := hb.size
  have M0' := M0.below hb
  have M1' := M1.below hb
  clear A2 R2 O2 H2 hb M0 M1
  have M0 := M0'
  clear M0'
  have M1 := M1'
  clear M1'
  have fo := blk_free Ov 2
  have qo2 := blk_cell Ov 2 _ rfl
  have qo0 := blk_cell Ov 0 _ rfl
  have qo1 := blk_cell Ov 1 _ rfl
  have z0 := blk_free Rv 0
  have y0 := blk_cell Rv 0 _ rfl
  have z1 := blk_free Rv 1
  have y1 := blk_cell Rv 1 _ rfl
  have z2 := blk_free Rv 2
  have y2 := blk_cell Rv 2 _ rfl
  go_wp2
  clear fo qo0 qo1 qo2 z0 y0 z1 y1 z2 y2
  obtain ⟨W3, hW⟩ : ∃ W, W = v2.setCell ⟨w.heap.size + 1 + 1, 2, none⟩ (.slice (some ⟨gbk, 0, none⟩) x.bkn x.bkn) := ⟨_, rfl⟩
  have hk : Kept v2 W3 (fun b => b = w.heap.size + 1 + 1) := by rw [hW]; exact kept_one _ _ _ _
  have A3 := hk.blk Av (by omega)
  have R3 := hk.blk Rv (by omega)
  have O3 : W3.heap[w.heap.size + 1 + 1]? = some (.cells #[.slice (some ⟨gsa, 0, none⟩) x.san x.san, .slice (some ⟨gld, 0, none⟩) x.ldn x.ldn, .slice (some ⟨gbk, 0, none⟩) x.bkn x.bkn] 33 (0, 0)) := by rw [hW]; exact off_set_2 Ov
  have H3 : Below w.heap.size w W3 := by rw [hW]; exact Hv.setCell (p := ⟨w.heap.size + 1 + 1, 2, none⟩) (by show w.heap.size ≤ w.heap.size + 1 + 1; omega) _
  have hz : W3.heap.size = v2.heap.size := by rw [hW, World.size_setCell]
  have M0' := M0.kept hk (fun b h => by left; omega)
  have M1' := M1.kept hk (fun b h => by left; omega)
  have M2' := M2.kept hk (fun b h => by left; omega)
  rw [← hW]
  rw [← hz] at M2' sz2
  clear hW hk Av Rv Ov Hv M0 M1 M2
  have M0 := M0'
  clear M0'
  have M1 := M1'
  clear M1'
  have M2 := M2'
  clear M2'
  obtain ⟨F, hF⟩ : ∃ F, F = ((W3.setCell ⟨w.heap.size + 1, 0, none⟩ (.slice (some ⟨gsa, 0, none⟩) x.san x.san)).setCell ⟨w.heap.size + 1, 1, none⟩ (.slice (some ⟨gld, 0, none⟩) x.ldn x.ldn)).setCell ⟨w.heap.size + 1, 2, none⟩ (.slice (some ⟨gbk, 0, none⟩) x.bkn x.bkn) := ⟨_, rfl⟩
  have hk : Kept W3 F (fun b => b = w.heap.size + 1) := by rw [hF]; exact (((Kept.refl W3 (fun b => b = w.heap.size + 1)).set (a := ⟨w.heap.size + 1, 0, none⟩) rfl _).set (a := ⟨w.heap.size + 1, 1, none⟩) rfl _).set (a := ⟨w.heap.size + 1, 2, none⟩) rfl _
  have RF : F.heap[w.heap.size + 1]? = some (.cells #[.slice (some ⟨gsa, 0, none⟩) x.san x.san, .slice (some ⟨gld, 0, none⟩) x.ldn x.ldn, .slice (some ⟨gbk, 0, none⟩) x.bkn x.bkn] 33 (0, 0)) := by rw [hF]; exact off_set_2 (off_set_1 (off_set_0 R3))
  have HF : Below w.heap.size w F := by rw [hF]; exact ((H3.setCell (p := ⟨w.heap.size + 1, 0, none⟩) (by show w.heap.size ≤ w.heap.size + 1; omega) _).setCell (p := ⟨w.heap.size + 1, 1, none⟩) (by show w.heap.size ≤ w.heap.size + 1; omega) _).setCell (p := ⟨w.heap.size + 1, 2, none⟩) (by show w.heap.size ≤ w.heap.size + 1; omega) _
  have hz : F.heap.size = W3.heap.size := by rw [hF, World.size_setCell, World.size_setCell, World.size_setCell]
  rw [← hF]
  clear hF
  have z0 := blk_cell RF 0 _ rfl
  have z1 := blk_cell RF 1 _ rfl
  have z2 := blk_cell RF 2 _ rfl
  have N0 := (M0.kept hk (fun b h => by left; omega)).wide (lo' := w.heap.size) (hi' := W1.heap.size) (by omega) (by omega)
  have N1 := (M1.kept hk (fun b h => by left; omega)).wide (lo' := W1.heap.size) (hi' := W2.heap.size) (by omega) (by omega)
  have N2 := (M2.kept hk (fun b h => by left; omega)).wide (lo' := W2.heap.size) (hi' := F.heap.size) (by omega) (by omega)
  exact bodyPost_ret (v := .agg #[.slice (some ⟨gsa, 0, none⟩) x.san x.san, .slice (some ⟨gld, 0, none⟩) x.ldn x.ldn, .slice (some ⟨gbk, 0, none⟩) x.bkn x.bkn]) (by simp [results, Tryz.results8, go_sem, z0, z1, z2]) rfl ⟨_, rfl, ⟨W1.heap.size, W2.heap.size, gsa, ls, cc, gld, C, gbk, E, rfl, ⟨by omega, by omega, by omega⟩, N0, N1, N2⟩, HF⟩

set_option maxHeartbeats 1600000 in
set_option maxRecDepth 100000 in
theorem eqOffice_same (cs ds : List Value) (x : Off) (w : World) (hs : Off.Short x 1048576) (h : Off.Is w cs x) (h' : Off.Is w ds x) :
    Calls Tryz.prog 10 #[.agg cs.toArray, .agg ds.toArray] w fun e w' => e = .returned (.bool true) ∧ Below w.heap.size w w' := by
  obtain ⟨asa, csa, ald, cld, abk, cbk, rfl, h1, s1, h2, s2, h3, s3⟩ := h
  obtain ⟨asb, csb, alb, clb, abb, cbb, rfl, k1, u1, k2, u2, k3, u3⟩ := h'
  obtain ⟨⟨b1, t1⟩, ⟨b2, t2⟩, ⟨b3, t3⟩⟩ := hs
  clear s1 s2 s3 u1 u2 u3
  have H0 : Below w.heap.size w ((w.alloc (.cells #[.slice asa x.san csa, .slice ald x.ldn cld, .slice abk x.bkn cbk] 33)).alloc (.cells #[.slice asb x.san csb, .slice alb x.ldn clb, .slice abb x.bkn cbb] 33)) := push (push (Below.refl _ _) _) _
  have A0 : ((w.alloc (.cells #[.slice asa x.san csa, .slice ald x.ldn cld, .slice abk x.bkn cbk] 33)).alloc (.cells #[.slice asb x.san csb, .slice alb x.ldn clb, .slice abb x.bkn cbb] 33)).heap[w.heap.size]? = some (.cells #[.slice asa x.san csa, .slice ald x.ldn cld, .slice abk x.bkn cbk] 33 (0, 0)) := blk_alloc (heap_alloc_new w _) _
  have B0 : ((w.alloc (.cells #[.slice asa x.san csa, .slice ald x.ldn cld, .slice abk x.bkn cbk] 33)).alloc (.cells #[.slice asb x.san csb, .slice alb x.ldn clb, .slice abb x.bkn cbb] 33)).heap[w.heap.size + 1]? = some (.cells #[.slice asb x.san csb, .slice alb x.ldn clb, .slice abb x.bkn cbb] 33 (0, 0)) := by simpa using heap_alloc_new (w.alloc _) _
  go_enter Tryz.func10, Tryz.ntmps10
  go_wp2_with fail
  generalize (w.alloc (.cells #[.slice asa x.san csa, .slice ald x.ldn cld, .slice abk x.bkn cbk] 33)).alloc (.cells #[.slice asb x.san csb, .slice alb x.ldn clb, .slice abb x.bkn cbb] 33) = v at H0 A0 B0 ⊢
  refine (eqSailingS_same asa asb x.san csa csb x.sa _ b1 t1 (h1.below H0) (k1.below H0)).mono ?_
  rintro e v0 ⟨rfl, hb⟩
  have A1 := blk_below A0 hb
  have B1 := blk_below B0 hb
  have H1 := after H0 hb
  clear A0 B0 H0 hb
  have qa := blk_cell A1 1 _ rfl
  have qb := blk_cell B1 1 _ rfl
  go_wp2_with fail
  clear qa qb
  refine (eqLoadS_same ald alb x.ldn cld clb x.ld _ b2 t2 (h2.below H1) (k2.below H1)).mono ?_
  rintro e v1 ⟨rfl, hb⟩
  have A2 := blk_below A1 hb
  have B2 := blk_below B1 hb
  have H2 := after H1 hb
  clear A1 B1 H1 hb
  have qa := blk_cell A2 2 _ rfl
  have qb := blk_cell B2 2 _ rfl
  go_wp2_with fail
  clear qa qb
  refine (eqBookingS_same abk abb x.bkn cbk cbb x.bk _ b3 t3 (h3.below H2) (k3.below H2)).mono ?_
  rintro e v2 ⟨rfl, hb⟩
  have A3 := blk_below A2 hb
  have B3 := blk_below B2 hb
  have H3 := after H2 hb
  clear A2 B2 H2 hb
  go_wp2
  go_ret
  exact ⟨rfl, H3⟩

end Go.Proofs.YtlnadbnoemlpeaaGreat

namespace Go.Proofs.YtlnadbnoemlpeaaGreat
open Go.ChangeShapes Go.WideShapes Go.ChangeAt Go.RowKit Go.Deep

section
variable {H : Type} {enc : TypeId × Value → H} {P : Program} {w : World} {base : Nat} {spare : Nat → Bool} {held : Bool}

/-- How a list's datum tells its length. -/
def LenIs (d : DataW H) (n : Nat) : Prop := (d = .nil ∧ n = 0) ∨ ∃ els rest, d = .slice els rest ∧ els.length = n

theorem view_ints {t e fuel : Nat} {v : Value} {x : DataW H × List MemPlace} (ht : P.underlying t = some (.slice e)) (he : P.underlying e = some (.int .i64)) (hc : P.cellsOf e = 1)
    (h : DataW.trod enc P w base spare held fuel t [v] = some x) :
    ∃ ao n cap F, v = .slice ao n cap ∧ n ≤ cap ∧ cap ≤ maxLen ∧ (ao = none → n = 0 ∧ cap = 0) ∧ IntsAt w ao n F ∧ LenIs x.1 n := by
  rcases open_ints ht he hc h with ⟨hcs, hx⟩ | ⟨a, n, cap, zs, hcs, _, hl, hm, hz, hx, hcell, _⟩
  · simp at hcs
    subst hcs
    refine ⟨none, 0, 0, fun _ => 0, rfl, Nat.le_refl _, Nat.zero_le _, fun _ => ⟨rfl, rfl⟩, fun k hk => by omega, .inl ⟨by rw [hx], rfl⟩⟩
  · simp at hcs
    subst hcs
    have hzl : n ≤ zs.length := by rw [hz]; split <;> omega
    refine ⟨some a, n, cap, fun k => zs.getD k 0, rfl, hl, hm, (fun h => by cases h), (fun k hk => ?_), .inr ⟨_, _, by rw [hx], by simp [lits]; omega⟩⟩
    obtain ⟨b, off, rfl, hc2⟩ := ints_at hcell (by omega)
    exact ⟨b, off, rfl, hc2 k (by omega)⟩

theorem view_slots {t e fuel ti tb : Nat} {f0 f1 f2 : Field} {v : Value} {x : DataW H × List MemPlace} (ht : P.underlying t = some (.slice e)) (he : P.underlying e = some (.struct #[f0, f1, f2])) (hc : P.cellsOf e = 3)
    (t0 : f0.type = ti) (t1 : f1.type = tb) (t2 : f2.type = ti) (o0 : f0.offset = 0) (o1 : f1.offset = 1) (o2 : f2.offset = 2)
    (hi : P.underlying ti = some (.int .i64)) (hb : P.underlying tb = some .bool) (ci : P.cellsOf ti = 1) (cb : P.cellsOf tb = 1)
    (h : DataW.trod enc P w base spare held fuel t [v] = some x) :
    ∃ ao n cap A U V, v = .slice ao n cap ∧ n ≤ cap ∧ cap ≤ maxLen ∧ (ao = none → n = 0 ∧ cap = 0) ∧ SlotsAt w ao n A U V ∧ LenIs x.1 n := by
  rcases open_slice ht h with ⟨hcs, hx⟩ | ⟨a, n, cap, m, fl, D, Pl, hcs, _, hl, hm, hmm, hx, hcell⟩
  · simp at hcs
    subst hcs
    refine ⟨none, 0, 0, fun _ => 0, fun _ => false, fun _ => 0, rfl, Nat.le_refl _, Nat.zero_le _, fun _ => ⟨rfl, rfl⟩, fun k hk => by omega, .inl ⟨by rw [hx], rfl⟩⟩
  · simp at hcs
    subst hcs
    have hnm : n ≤ m := by rw [hmm]; split <;> omega
    by_cases hn0 : n = 0
    · subst hn0
      exact ⟨some a, 0, cap, fun _ => 0, fun _ => false, fun _ => 0, rfl, hl, hm, (fun h => by cases h), (fun k hk => by omega), .inr ⟨_, _, by rw [hx], by simp⟩⟩
    have hspot : a.spot = none := by
      obtain ⟨cs, hcl, _⟩ := hcell 0 (by omega)
      rw [hc] at hcl
      obtain ⟨_, hlen, hget⟩ := World.cells?_some hcl
      have g0 := hget 0 (by omega)
      rw [List.getElem?_eq_getElem (by omega)] at g0
      have := World.cell?_spot g0
      simpa [Addr.add] using this
    obtain ⟨b, off, spot⟩ := a
    simp only at hspot
    subst hspot
    have key : ∀ k, k < n → ∃ (y : Int × Bool × Int), w.cell? ⟨b, off + k * 3, none⟩ = some (.int .i64 y.1) ∧ w.cell? ⟨b, off + k * 3 + 1, none⟩ = some (.bool y.2.1) ∧ w.cell? ⟨b, off + k * 3 + 2, none⟩ = some (.int .i64 y.2.2) := by
      intro k hk
      obtain ⟨cs, hcl, htr⟩ := hcell k (by omega)
      rw [hc] at hcl
      obtain ⟨_, hlen, hget⟩ := World.cells?_some hcl
      obtain ⟨y0, y1, y2, n', _, _, h0, h1, h2⟩ := trod_struct3 he htr
      rw [t0, o0, ci] at h0
      rw [t1, o1, cb] at h1
      rw [t2, o2, ci] at h2
      match cs, hlen with
      | [p, q, r], _ =>
        obtain ⟨i0, e0, _, _⟩ := DataW.trod_int hi h0
        obtain ⟨i1, e1, _⟩ := DataW.trod_bool hb h1
        obtain ⟨i2, e2, _, _⟩ := DataW.trod_int hi h2
        simp at e0 e1 e2
        subst e0 e1 e2
        have g0 := hget 0 (by omega)
        have g1 := hget 1 (by omega)
        have g2 := hget 2 (by omega)
        simp only [List.getElem?_cons_zero, List.getElem?_cons_succ, Addr.add_lit, Nat.add_zero] at g0 g1 g2
        exact ⟨(i0, i1, i2), g0, g1, g2⟩
    obtain ⟨f, hf⟩ := choose_lt key
    exact ⟨some ⟨b, off, none⟩, n, cap, fun k => (f k).1, fun k => (f k).2.1, fun k => (f k).2.2, rfl, hl, hm, (fun h => by cases h), (fun k hk => ⟨b, off, rfl, hf k hk⟩), .inr ⟨_, _, by rw [hx], by simp⟩⟩

/-- The reach of a list: so many elements at most. -/
theorem len_reach {t e n : Nat} {d : DataW H} {bytes : Nat} (ht : P.underlying t = some (.slice e)) (hb : P.bytesOf e = bytes) (hd : LenIs d n) (hw : ∀ x ∈ DataW.weights P t d, x ≤ reachBytes) : n * bytes ≤ reachBytes := by
  rcases hd with ⟨_, rfl⟩ | ⟨els, rest, rfl, rfl⟩
  · omega
  · have := hw ((els.length + rest.length) * P.bytesOf e) (by simp [DataW.weights, ht])
    rw [hb] at this
    exact Nat.le_trans (Nat.mul_le_mul_right _ (Nat.le_add_right _ _)) this

end
end Go.Proofs.YtlnadbnoemlpeaaGreat

namespace Go.Proofs.YtlnadbnoemlpeaaGreat
open Go.ChangeShapes Go.WideShapes Go.ChangeAt Go.RowKit Go.Deep Go.Joins

theorem weightsAll_mem {H : Type} {P : Program} {e : Nat} {x : Nat} : ∀ {l : List (DataW H)} {d : DataW H}, d ∈ l → x ∈ DataW.weights P e d → x ∈ DataW.weightsAll P e l := by
  intro l
  induction l with
  | nil => intro d h; cases h
  | cons a l ih =>
    intro d h hx
    rw [DataW.weightsAll, List.mem_append]
    rcases List.mem_cons.1 h with rfl | h
    · exact .inl hx
    · exact .inr (ih h hx)

section
variable {H : Type} {enc : TypeId × Value → H} {P : Program} {w : World} {base : Nat} {held : Bool}

theorem view_list {t e fuel sz bytes : Nat} {v : Value} {x : DataW H × List MemPlace} (ht : P.underlying t = some (.slice e)) (hc : P.cellsOf e = sz) (h0 : 0 < sz) (hby : P.bytesOf e = bytes)
    (h : DataW.trod enc P w base (fun _ => true) held fuel t [v] = some x) (hw : ∀ y ∈ DataW.weights P t x.1, y ≤ reachBytes) :
    ∃ ao n cap C, v = .slice ao n cap ∧ RecsAt w ao n sz C ∧ n ≤ cap ∧ (ao = none → n = 0 ∧ cap = 0) ∧ cap * bytes ≤ reachBytes ∧
      ∀ k, k < n → (C k).length = sz ∧ ∃ fl z, DataW.trod enc P w base (fun _ => true) held fl e (C k) = some z ∧ ∀ y ∈ DataW.weights P e z.1, y ≤ reachBytes := by
  rcases open_slice ht h with ⟨hcs, hx⟩ | ⟨a, n, cap, m, fl, D, Pl, hcs, _, hl, hm, hmm, hx, hcell⟩
  · simp at hcs
    subst hcs
    exact ⟨none, 0, 0, fun _ => [], rfl, fun k hk => absurd hk (Nat.not_lt_zero _), Nat.le_refl _, fun _ => ⟨rfl, rfl⟩, by omega, fun k hk => absurd hk (Nat.not_lt_zero _)⟩
  · simp at hcs
    subst hcs
    rw [if_pos rfl] at hmm
    subst hmm
    have hcap : m * bytes ≤ reachBytes := by
      have := hw ((n + (m - n)) * P.bytesOf e) (by rw [hx]; simp [DataW.weights, ht])
      rw [hby, show n + (m - n) = m by omega] at this
      exact this
    by_cases hn0 : n = 0
    · subst hn0
      exact ⟨some a, 0, m, fun _ => [], rfl, fun k hk => absurd hk (Nat.not_lt_zero _), hl, (fun h => by cases h), hcap, fun k hk => absurd hk (Nat.not_lt_zero _)⟩
    have hspot : a.spot = none := by
      obtain ⟨cs, hcl, _⟩ := hcell 0 (by omega)
      rw [hc] at hcl
      obtain ⟨_, hlen, hget⟩ := World.cells?_some hcl
      have g0 := hget 0 (by omega)
      rw [List.getElem?_eq_getElem (by omega)] at g0
      have := World.cell?_spot g0
      simpa [Addr.add] using this
    obtain ⟨b, off, spot⟩ := a
    simp only at hspot
    subst hspot
    have key : ∀ k, k < n → ∃ cs : List Value, (cs.length = sz ∧ ∀ j, j < sz → w.cell? ⟨b, off + k * sz + j, none⟩ = some (cs.getD j (.bool false))) ∧ ∃ fl z, DataW.trod enc P w base (fun _ => true) held fl e cs = some z ∧ ∀ y ∈ DataW.weights P e z.1, y ≤ reachBytes := by
      intro k hk
      obtain ⟨cs, hcl, htr⟩ := hcell k (by omega)
      rw [hc] at hcl
      obtain ⟨_, hlen, hget⟩ := World.cells?_some hcl
      refine ⟨cs, ⟨hlen, fun j hj => ?_⟩, _, _, htr, fun y hy => ?_⟩
      · have g := hget j hj
        rw [List.getElem?_eq_getElem (by omega)] at g
        rw [List.getD_eq_getElem?_getD, List.getElem?_eq_getElem (by omega)]
        simp only [Addr.add_lit] at g
        exact g
      · refine hw y ?_
        have h1 : D k ∈ (List.range n).map D := List.mem_map.2 ⟨k, List.mem_range.2 hk, rfl⟩
        have h2 := weightsAll_mem h1 hy
        rw [hx]
        simp [DataW.weights, ht, h2]
    obtain ⟨C, hC⟩ := choose_lt key
    exact ⟨some ⟨b, off, none⟩, n, m, C, rfl, fun k hk => ⟨b, off, rfl, (hC k hk).1.2⟩, hl, (fun h => by cases h), hcap, fun k hk => ⟨(hC k hk).1.1, (hC k hk).2⟩⟩

theorem trod_struct3' {t : TypeId} {f0 f1 f2 : Field} {fuel : Nat} {spare : Nat → Bool} {cs : List Value} {x : DataW H × List MemPlace} (ht : P.underlying t = some (.struct #[f0, f1, f2])) (h : DataW.trod enc P w base spare held fuel t cs = some x) :
    ∃ y0 y1 y2 n, x.1 = .agg [y0.1, y1.1, y2.1] ∧ cs.length = P.cellsOf t ∧ DataW.trod enc P w base spare held n f0.type ((cs.drop f0.offset).take (P.cellsOf f0.type)) = some y0 ∧
      DataW.trod enc P w base spare held n f1.type ((cs.drop f1.offset).take (P.cellsOf f1.type)) = some y1 ∧ DataW.trod enc P w base spare held n f2.type ((cs.drop f2.offset).take (P.cellsOf f2.type)) = some y2 := by
  obtain ⟨xs, n, _, rfl, hl, hlen, hf⟩ := DataW.trod_struct ht h
  match xs, hlen with
  | [y0, y1, y2], _ => exact ⟨y0, y1, y2, n, by simp, hl, by simpa using hf 0 f0 rfl, by simpa using hf 1 f1 rfl, by simpa using hf 2 f2 rfl⟩
end

end Go.Proofs.YtlnadbnoemlpeaaGreat
