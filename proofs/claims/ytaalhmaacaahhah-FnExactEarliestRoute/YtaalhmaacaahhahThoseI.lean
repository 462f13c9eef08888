/-
  OWN TEXT: the contract of those over sailings, with route.catches.
-/
import Derived.Test.YtaalhmaacaahhahRouteI
import Derived.Test.YtaalhmaacaahhahLSails
import Derived.Test.YtaalhmaacaahhahPlainH
namespace Go.Proofs.Ytaalhmaacaahhah
open Go.RowKit

/-- The sailings at block b from cell off on, their lists' slices named. -/
def SailsIn (w : World) (b off N : Nat) (S : Nat → Sail) (la ca : Nat → Option Addr) (lc cc : Nat → Nat) : Prop :=
  ∀ k, k < N → w.cell? ⟨b, off + k * 8, none⟩ = some (.int .i64 (S k).id) ∧ w.cell? ⟨b, off + k * 8 + 1, none⟩ = some (.string (S k).fr) ∧
    w.cell? ⟨b, off + k * 8 + 2, none⟩ = some (.string (S k).dst) ∧ w.cell? ⟨b, off + k * 8 + 3, none⟩ = some (.int .i64 (S k).dep) ∧ w.cell? ⟨b, off + k * 8 + 4, none⟩ = some (.int .i64 (S k).arr) ∧
    w.cell? ⟨b, off + k * 8 + 5, none⟩ = some (.slice (la k) (S k).la.n (lc k)) ∧ w.cell? ⟨b, off + k * 8 + 6, none⟩ = some (.slice (ca k) (S k).ca.n (cc k)) ∧ w.cell? ⟨b, off + k * 8 + 7, none⟩ = some (.int .i64 (S k).most)
theorem SailsIn.below {w w' : World} {b off N : Nat} {S : Nat → Sail} {la ca : Nat → Option Addr} {lc cc : Nat → Nat} (h : SailsIn w b off N S la ca lc cc) (hb : Below w.heap.size w w') : SailsIn w' b off N S la ca lc cc := by
  intro k hk
  obtain ⟨h0, h1, h2, h3, h4, h5, h6, h7⟩ := h k hk
  have hlt : b < w.heap.size := World.block_lt_of_cell? w _ h1
  exact ⟨(hb.cell hlt).trans h0, (hb.cell hlt).trans h1, (hb.cell hlt).trans h2, (hb.cell hlt).trans h3, (hb.cell hlt).trans h4, (hb.cell hlt).trans h5, (hb.cell hlt).trans h6, (hb.cell hlt).trans h7⟩
theorem sails_in {w : World} {ao : Option Addr} {N : Nat} {S : Nat → Sail} (h : SailsAt w ao N S) (hN : 0 < N) : ∃ b off la ca lc cc, ao = some ⟨b, off, none⟩ ∧ b < w.heap.size ∧ SailsIn w b off N S la ca lc cc := by
  obtain ⟨b, off, _, _, _, _, rfl, h0, _⟩ := h 0 hN
  have hlt : b < w.heap.size := World.block_lt_of_cell? w _ h0
  have key : ∀ k, ∃ y : Option Addr × Option Addr × Nat × Nat, k < N → w.cell? ⟨b, off + k * 8, none⟩ = some (.int .i64 (S k).id) ∧ w.cell? ⟨b, off + k * 8 + 1, none⟩ = some (.string (S k).fr) ∧
    w.cell? ⟨b, off + k * 8 + 2, none⟩ = some (.string (S k).dst) ∧ w.cell? ⟨b, off + k * 8 + 3, none⟩ = some (.int .i64 (S k).dep) ∧ w.cell? ⟨b, off + k * 8 + 4, none⟩ = some (.int .i64 (S k).arr) ∧
    w.cell? ⟨b, off + k * 8 + 5, none⟩ = some (.slice y.1 (S k).la.n y.2.2.1) ∧ w.cell? ⟨b, off + k * 8 + 6, none⟩ = some (.slice y.2.1 (S k).ca.n y.2.2.2) ∧ w.cell? ⟨b, off + k * 8 + 7, none⟩ = some (.int .i64 (S k).most) := by
    intro k
    by_cases hk : k < N
    · obtain ⟨b', off', la, lc, ca, cc, e, g0, g1, g2, g3, g4, g5, g6, g7, _⟩ := h k hk
      simp only [Option.some.injEq, Addr.mk.injEq, and_true] at e
      obtain ⟨rfl, rfl⟩ := e
      exact ⟨(la, ca, lc, cc), fun _ => ⟨g0, g1, g2, g3, g4, g5, g6, g7⟩⟩
    · exact ⟨(none, none, 0, 0), fun h => absurd h hk⟩
  refine ⟨b, off, fun k => (Classical.choose (key k)).1, fun k => (Classical.choose (key k)).2.1, fun k => (Classical.choose (key k)).2.2.1, fun k => (Classical.choose (key k)).2.2.2, rfl, hlt, fun k hk => Classical.choose_spec (key k) hk⟩

/-- The cells of the sailings K 0, K 1, .. -/
def rowOf (S : Nat → Sail) (la ca : Nat → Option Addr) (lc cc : Nat → Nat) (K : Nat → Nat) (j : Nat) : Value :=
  sailCell (fun i => S (K i)) (fun i => .slice (la (K i)) (S (K i)).la.n (lc (K i))) (fun i => .slice (ca (K i)) (S (K i)).ca.n (cc (K i))) j
def valsOf (S : Nat → Sail) (la ca : Nat → Option Addr) (lc cc : Nat → Nat) (k : Nat) : List Value :=
  [.int .i64 (S k).id, .string (S k).fr, .string (S k).dst, .int .i64 (S k).dep, .int .i64 (S k).arr, .slice (la k) (S k).la.n (lc k), .slice (ca k) (S k).ca.n (cc k), .int .i64 (S k).most]
theorem rowOf_snoc (S : Nat → Sail) (la ca : Nat → Option Addr) (lc cc : Nat → Nat) (K : Nat → Nat) (m k : Nat) :
    (List.range ((m + 1) * 8)).map (rowOf S la ca lc cc (upd K m k)) = (List.range (m * 8)).map (rowOf S la ca lc cc K) ++ valsOf S la ca lc cc k := by
  rw [show (m + 1) * 8 = m * 8 + 1 + 1 + 1 + 1 + 1 + 1 + 1 + 1 by omega, List.range_succ, List.range_succ, List.range_succ, List.range_succ, List.range_succ, List.range_succ, List.range_succ, List.range_succ]
  simp only [List.map_append, List.map_cons, List.map_nil, List.append_assoc, List.cons_append, List.nil_append]
  unfold rowOf valsOf
  rw [sailCell_0, sailCell_1, show m * 8 + 1 + 1 = m * 8 + 2 by omega, sailCell_2, show m * 8 + 2 + 1 = m * 8 + 3 by omega, sailCell_3, show m * 8 + 3 + 1 = m * 8 + 4 by omega, sailCell_4, show m * 8 + 4 + 1 = m * 8 + 5 by omega, sailCell_5, show m * 8 + 5 + 1 = m * 8 + 6 by omega, sailCell_6, show m * 8 + 6 + 1 = m * 8 + 7 by omega, sailCell_7, upd_at]
  congr 1
  refine List.map_congr_left fun j hj => ?_
  have hj' : j < m * 8 := by simpa using hj
  unfold sailCell
  simp only [upd_ne _ _ _ (show j / 8 ≠ m by omega)]

/-- The first n sailings that are caught, m of them. -/
def Caught (S : Nat → Sail) (pl : ByteArray) (t : Int) (n m : Nat) (K : Nat → Nat) : Prop :=
  m ≤ n ∧ (∀ j, j < m → K j < n ∧ catchB pl t (S (K j)).fr (S (K j)).dep = true) ∧ ∀ k, k < n → catchB pl t (S k).fr (S k).dep = true → ∃ j, j < m ∧ K j = k
/-- What those answers. -/
def Those (e : Ending) (w w' : World) (N : Nat) (S : Nat → Sail) (la ca : Nat → Option Addr) (lc cc : Nat → Nat) (pl : ByteArray) (t : Int) : Prop :=
  ∃ ao m c K, e = .returned (.slice ao m c) ∧ Caught S pl t N m K ∧ w'.ownsRow w.heap.size 62 8 (.slice ao m c) m ((List.range (m * 8)).map (rowOf S la ca lc cc K)) ∧ Below w.heap.size w w'

set_option maxHeartbeats 3200000 in
set_option maxRecDepth 100000 in
theorem those_any (b off N c : Nat) (S : Nat → Sail) (la ca : Nat → Option Addr) (lc cc : Nat → Nat) (va : Option Addr) (n vc : Nat) (pl : ByteArray) (t : Int) (w : World) (hN : N ≤ 1048576) (hx : SailsIn w b off N S la ca lc cc) :
    Calls Try.prog 74 #[.slice (some ⟨b, off, none⟩) N c, .func (.func 45) #[.agg #[.slice va n vc, .string pl, .int .i64 t]] #[]] w fun e w' => Those e w w' N S la ca lc cc pl t := by
  obtain ⟨j0, ji, jz0, jz1, jz2⟩ := info_parts Try.infoSailing
  go_enter Try.func74, Try.ntmps74
  go_wp2
  go_loopw [5, 7, 10] (fun v _ i wr => ∃ (k m : Nat) (K : Nat → Nat), k ≤ N ∧ i = .int .i64 k ∧ Caught S pl t k m K ∧ wr.ownsRow w.heap.size 62 8 v m ((List.range (m * 8)).map (rowOf S la ca lc cc K)) ∧ Below w.heap.size w wr) (fun _ _ i _ => N - (intOf i).toNat)
  case atStart => exact ⟨0, 0, fun _ => 0, Nat.zero_le _, rfl, ⟨Nat.le_refl _, fun j hj => by omega, fun k hk => by omega⟩, World.ownsRow_nil _ _ _ _, Below.refl _ _⟩
  case round =>
    obtain ⟨k, m, K, hk, rfl, hca, ho, hbel⟩ := hrel
    have HC : Hid (Caught S pl t k m K) := hca
    have HO : Hid (wr.ownsRow w.heap.size 62 8 u5 m ((List.range (m * 8)).map (rowOf S la ca lc cc K))) := ho
    have hmk := hca.1
    clear hca ho
    by_cases hlt : k < N
    · obtain ⟨h0, h1, h2, h3, h4, h5, h6, h7⟩ := hx k hlt
      have hb := World.block_lt_of_cell? w _ h1
      have c0 := (hbel.cell (p := ⟨b, off + k * 8, none⟩) hb).trans h0
      have c1 := (hbel.cell (p := ⟨b, off + k * 8 + 1, none⟩) hb).trans h1
      have c2 := (hbel.cell (p := ⟨b, off + k * 8 + 2, none⟩) hb).trans h2
      have c3 := (hbel.cell (p := ⟨b, off + k * 8 + 3, none⟩) hb).trans h3
      have c4 := (hbel.cell (p := ⟨b, off + k * 8 + 4, none⟩) hb).trans h4
      have c5 := (hbel.cell (p := ⟨b, off + k * 8 + 5, none⟩) hb).trans h5
      have c6 := (hbel.cell (p := ⟨b, off + k * 8 + 6, none⟩) hb).trans h6
      have c7 := (hbel.cell (p := ⟨b, off + k * 8 + 7, none⟩) hb).trans h7
      clear h0 h1 h2 h3 h4 h5 h6 h7
      have hbx := push hbel (.cells #[.int .i64 (S k).id, .string (S k).fr, .string (S k).dst, .int .i64 (S k).dep, .int .i64 (S k).arr, .slice (la k) (S k).la.n (lc k), .slice (ca k) (S k).ca.n (cc k), .int .i64 (S k).most] 62)
      have hbox := heap_alloc_new wr (.cells #[.int .i64 (S k).id, .string (S k).fr, .string (S k).dst, .int .i64 (S k).dep, .int .i64 (S k).arr, .slice (la k) (S k).la.n (lc k), .slice (ca k) (S k).ca.n (cc k), .int .i64 (S k).most] 62)
      have hown1 := own_below (push (Below.refl _ wr) (.cells #[.int .i64 (S k).id, .string (S k).fr, .string (S k).dst, .int .i64 (S k).dep, .int .i64 (S k).arr, .slice (la k) (S k).la.n (lc k), .slice (ca k) (S k).ca.n (cc k), .int .i64 (S k).most] 62)) HO.out
      have HO1 : Hid _ := hown1
      clear hown1
      go_wp2_with fail
      refine (catches_is va n vc pl t (S k).id (S k).dep (S k).arr (S k).most (S k).fr (S k).dst _ _ _ _ _ _ _).mono ?_
      rintro e w2 ⟨rfl, hb2⟩
      have hbox2 := blk_below hbox hb2
      have hbel2 := after hbx hb2
      have HO2 : Hid (w2.ownsRow w.heap.size 62 8 u5 m ((List.range (m * 8)).map (rowOf S la ca lc cc K))) := own_below hb2 HO1.out
      clear hbx hbox hb2 HO1 HO hbel c0 c1 c2 c3 c4 c5 c6 c7
      by_cases hcb : catchB pl t (S k).fr (S k).dep = true
      · have b0 := blk_cell hbox2 0 _ rfl
        have b1 := blk_cell hbox2 1 _ rfl
        have b2 := blk_cell hbox2 2 _ rfl
        have b3 := blk_cell hbox2 3 _ rfl
        have b4 := blk_cell hbox2 4 _ rfl
        have b5 := blk_cell hbox2 5 _ rfl
        have b6 := blk_cell hbox2 6 _ rfl
        have b7 := blk_cell hbox2 7 _ rfl
        have hnb := heap_alloc_new w2 (.cells #[.int .i64 (S k).id, .string (S k).fr, .string (S k).dst, .int .i64 (S k).dep, .int .i64 (S k).arr, .slice (la k) (S k).la.n (lc k), .slice (ca k) (S k).ca.n (cc k), .int .i64 (S k).most] 62)
        have HNW : Hid (∀ j u, (valsOf S la ca lc cc k)[j]? = some u → (w2.alloc (.cells #[.int .i64 (S k).id, .string (S k).fr, .string (S k).dst, .int .i64 (S k).dep, .int .i64 (S k).arr, .slice (la k) (S k).la.n (lc k), .slice (ca k) (S k).ca.n (cc k), .int .i64 (S k).most] 62)).cell? ((⟨w2.heap.size, 0, none⟩ : Addr).add j) = some u) := World.news_of_block hnb
        have hbn := push (Below.refl _ w2) (.cells #[.int .i64 (S k).id, .string (S k).fr, .string (S k).dst, .int .i64 (S k).dep, .int .i64 (S k).arr, .slice (la k) (S k).la.n (lc k), .slice (ca k) (S k).ca.n (cc k), .int .i64 (S k).most] 62)
        have HO3 : Hid _ := own_below hbn HO2.out
        have hbel3 := after hbel2 hbn
        have hsz := hbel3.size
        have H1 : Hid (∀ u ∈ valsOf S la ca lc cc k, u.oneCell' = true) := by intro u hu; simp [valsOf] at hu; rcases hu with rfl | rfl | rfl | rfl | rfl | rfl | rfl | rfl <;> rfl
        clear hnb hbn
        go_wp2_with (first | (at_builtin; refine wpList_append_any _ (by rfl) (.tmp 17) (.tmp 19) 25 (by rfl) w.heap.size 62 j0 (.agg #[.int .i64 0, .string ⟨#[]⟩, .string ⟨#[]⟩, .int .i64 0, .int .i64 0, .slice none 0 0, .slice none 0 0, .int .i64 0]) 8 112 Try.underlying25 ji jz0 jz1 jz2 rfl (by decide) _ m _ (by rfl) HO3.out (some ⟨w2.heap.size, 0, none⟩) 1 1 (valsOf S la ca lc cc k) (by rfl) (fun h => (by cases h)) (by rfl) (fun ad e => by cases e; exact HNW.out) H1.out (by unfold maxLen; omega) (by omega) hsz ?_; intro v' w4 ho4 hg4))
        go_roundw
        case rel =>
          refine ⟨k + 1, m + 1, upd K m k, by omega, by go_num, ⟨by omega, fun j hj => ?_, fun q hq hc => ?_⟩, by rw [rowOf_snoc]; exact ho4, hbel3.grown hg4 hsz (fun j hj => (HO2.out.lt j hj).1)⟩
          · by_cases e : j = m
            · subst e; rw [upd_at]; exact ⟨by omega, hcb⟩
            · rw [upd_ne _ _ _ e]; have := HC.out.2.1 j (by omega); exact ⟨by omega, this.2⟩
          · by_cases e : q = k
            · subst e; exact ⟨m, by omega, upd_at _ _ _⟩
            · obtain ⟨j, hj, e2⟩ := HC.out.2.2 q (by omega) hc
              exact ⟨j, by omega, by rw [upd_ne _ _ _ (by omega)]; exact e2⟩
        case measure => simp [intOf]; omega
      · have hcb := Bool.eq_false_iff.2 hcb
        go_wp2
        go_roundw
        case rel =>
          refine ⟨k + 1, m, K, by omega, by go_num, ⟨by omega, fun j hj => ?_, fun q hq hc => ?_⟩, HO2.out, hbel2⟩
          · have := HC.out.2.1 j hj; exact ⟨by omega, this.2⟩
          · by_cases e : q = k
            · subst e; rw [hcb] at hc; cases hc
            · exact HC.out.2.2 q (by omega) hc
        case measure => simp [intOf]; omega
    · obtain rfl : k = N := by omega
      obtain ⟨ao', c', e', _⟩ := own_form HO.out
      have HO' := HO.out
      rw [e'] at HO'
      have HO2 : Hid _ := HO'
      subst e'
      clear HO HO'
      go_wp2
      go_ret
      exact ⟨ao', m, c', K, rfl, HC.out, HO2.out, hbel⟩

end Go.Proofs.Ytaalhmaacaahhah
