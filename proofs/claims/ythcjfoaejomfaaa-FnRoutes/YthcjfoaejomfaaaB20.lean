/-
  OWN TEXT: RouteI, ThoseI.
-/
import Derived.Deep.RegionHeld3
import Derived.Deep.DeepCutAuto
import Derived.Test.YthcjfoaejomfaaaB19
import Derived.Test.YthcjfoaejomfaaaB14
import Derived.Test.YthcjfoaejomfaaaB05
import Derived.Test.YthcjfoaejomfaaaB15
namespace Go.Proofs.Ythcjfoaejomfaaa
open Go.RowKit

def catchB (pl : ByteArray) (t : Int) (fr : ByteArray) (d : Int) : Bool := (fr.toList == pl.toList) && decide (t ≤ d)
theorem catchB_iff {pl fr : ByteArray} {t d : Int} : catchB pl t fr d = true ↔ fr = pl ∧ t ≤ d := by
  unfold catchB
  rw [Bool.and_eq_true, bytes_eq, decide_eq_true_iff]

set_option maxHeartbeats 800000 in
theorem catches_is (la : Option Addr) (n lc : Nat) (pl : ByteArray) (t x d a mo : Int) (fr tt : ByteArray) (lo co : Option Addr) (m1 m2 c1 c2 : Nat) (w : World) :
    Calls Try.prog 24 #[.agg #[.slice la n lc, .string pl, .int .i64 t], .agg #[.int .i64 x, .string fr, .string tt, .int .i64 d, .int .i64 a, .slice lo m1 c1, .slice co m2 c2, .int .i64 mo]] w fun e w' => e = .returned (.bool (catchB pl t fr d)) ∧ Below w.heap.size w w' := by
  obtain ⟨q, hq⟩ : ∃ q, q = catchB pl t fr d := ⟨_, rfl⟩
  rw [← hq]
  have HC : Hid (q = catchB pl t fr d) := hq
  clear hq
  by_cases h1 : fr = pl
  · have e1 : (fr.toList == pl.toList) = true := bytes_eq.2 h1
    have H1 : Hid (fr = pl) := h1
    clear h1
    by_cases h2 : t ≤ d
    · have e2 : decide (t ≤ d) = true := by simpa using h2
      go_enter Try.func24, Try.ntmps24
      go_wp2
      go_ret
      exact ⟨by rw [HC.out, catchB_iff.2 ⟨H1.out, h2⟩]; rfl, push (push (Below.refl _ _) _) _⟩
    · have e2 : decide (t ≤ d) = false := by simpa using h2
      go_enter Try.func24, Try.ntmps24
      go_wp2
      go_ret
      exact ⟨by rw [HC.out, show catchB pl t fr d = false from Bool.eq_false_iff.2 (fun h => by have := (catchB_iff.1 h).2; omega)]; rfl, push (push (Below.refl _ _) _) _⟩
  · have e1 : (fr.toList == pl.toList) = false := bytes_ne.2 h1
    have H1 : Hid (¬ fr = pl) := h1
    clear h1
    go_enter Try.func24, Try.ntmps24
    go_wp2
    go_ret
    exact ⟨by rw [HC.out, Bool.eq_false_iff.2 (fun h => H1.out (catchB_iff.1 h).1)]; rfl, push (push (Below.refl _ _) _) _⟩

set_option maxHeartbeats 1600000 in
set_option maxRecDepth 100000 in
theorem with_any (la : Option Addr) (n lc : Nat) (ls : List Int) (pl : ByteArray) (t x d a mo : Int) (fr tt : ByteArray) (lo co : Option Addr) (m1 m2 c1 c2 : Nat) (w : World) (hl : ls.length = n) (hn : n ≤ 1048576) (hx : IntsAt w la n (getI ls)) (hna : la = none → n = 0 ∧ lc = 0) :
    Calls Try.prog 25 #[.agg #[.slice la n lc, .string pl, .int .i64 t], .agg #[.int .i64 x, .string fr, .string tt, .int .i64 d, .int .i64 a, .slice lo m1 c1, .slice co m2 c2, .int .i64 mo]] w fun e w' => ∃ ao c, e = .returned (.agg #[.slice ao (n + 1) c, .string tt, .int .i64 a]) ∧ w'.ownsRow w.heap.size 3 1 (.slice ao (n + 1) c) (n + 1) (cellsI (ls ++ [x])) ∧ Below w.heap.size w w' := by
  have HL : Hid (ls.length = n) := hl
  clear hl
  go_enter Try.func25, Try.ntmps25
  go_upto_region 1 with fail
  have hr0 : (((w.alloc (.cells #[.slice la n lc, .string pl, .int .i64 t] 50)).alloc (.cells #[.int .i64 x, .string fr, .string tt, .int .i64 d, .int .i64 a, .slice lo m1 c1, .slice co m2 c2, .int .i64 mo] 33)).alloc (.cells #[.slice none 0 0, .string ⟨#[]⟩, .int .i64 0] 50)).heap[w.heap.size]? = some (.cells #[.slice la n lc, .string pl, .int .i64 t] 50 (0, 0)) := blk_alloc (blk_alloc (heap_alloc_new w _) _) _
  have hs0 : (((w.alloc (.cells #[.slice la n lc, .string pl, .int .i64 t] 50)).alloc (.cells #[.int .i64 x, .string fr, .string tt, .int .i64 d, .int .i64 a, .slice lo m1 c1, .slice co m2 c2, .int .i64 mo] 33)).alloc (.cells #[.slice none 0 0, .string ⟨#[]⟩, .int .i64 0] 50)).heap[w.heap.size + 1]? = some (.cells #[.int .i64 x, .string fr, .string tt, .int .i64 d, .int .i64 a, .slice lo m1 c1, .slice co m2 c2, .int .i64 mo] 33 (0, 0)) := blk_alloc (by simpa using heap_alloc_new (w.alloc _) _) _
  have hz0 : (((w.alloc (.cells #[.slice la n lc, .string pl, .int .i64 t] 50)).alloc (.cells #[.int .i64 x, .string fr, .string tt, .int .i64 d, .int .i64 a, .slice lo m1 c1, .slice co m2 c2, .int .i64 mo] 33)).alloc (.cells #[.slice none 0 0, .string ⟨#[]⟩, .int .i64 0] 50)).heap[w.heap.size + 1 + 1]? = some (.cells #[.slice none 0 0, .string ⟨#[]⟩, .int .i64 0] 50 (0, 0)) := by simpa using heap_alloc_new ((w.alloc _).alloc _) _
  have hb0 : Below w.heap.size w (((w.alloc (.cells #[.slice la n lc, .string pl, .int .i64 t] 50)).alloc (.cells #[.int .i64 x, .string fr, .string tt, .int .i64 d, .int .i64 a, .slice lo m1 c1, .slice co m2 c2, .int .i64 mo] 33)).alloc (.cells #[.slice none 0 0, .string ⟨#[]⟩, .int .i64 0] 50)) := push (push (push (Below.refl _ _) _) _) _
  have hsz0 : (((w.alloc (.cells #[.slice la n lc, .string pl, .int .i64 t] 50)).alloc (.cells #[.int .i64 x, .string fr, .string tt, .int .i64 d, .int .i64 a, .slice lo m1 c1, .slice co m2 c2, .int .i64 mo] 33)).alloc (.cells #[.slice none 0 0, .string ⟨#[]⟩, .int .i64 0] 50)).heap.size = w.heap.size + 1 + 1 + 1 := by simp
  generalize hW : ((w.alloc (.cells #[.slice la n lc, .string pl, .int .i64 t] 50)).alloc (.cells #[.int .i64 x, .string fr, .string tt, .int .i64 d, .int .i64 a, .slice lo m1 c1, .slice co m2 c2, .int .i64 mo] 33)).alloc (.cells #[.slice none 0 0, .string ⟨#[]⟩, .int .i64 0] 50) = W at hr0 hs0 hz0 hb0 hsz0 ⊢
  clear hW
  have HSZ : Hid (W.heap.size = w.heap.size + 1 + 1 + 1) := hsz0
  clear hsz0
  have hb1 : Below W.heap.size W (((W.alloc (.cells #[.int .i64 x] 3)).alloc (.cells #[.slice la n lc, .slice (some ⟨W.heap.size, 0, none⟩) 1 1] 26)).drew) := (push (push (Below.refl _ W) _) _).drew
  have hl1 : (((W.alloc (.cells #[.int .i64 x] 3)).alloc (.cells #[.slice la n lc, .slice (some ⟨W.heap.size, 0, none⟩) 1 1] 26)).drew).heap[W.heap.size + 1]? = some (.cells #[.slice la n lc, .slice (some ⟨W.heap.size, 0, none⟩) 1 1] 26 (0, 0)) := blk_drew (by simpa using heap_alloc_new (W.alloc _) _)
  have hl2 : (((W.alloc (.cells #[.int .i64 x] 3)).alloc (.cells #[.slice la n lc, .slice (some ⟨W.heap.size, 0, none⟩) 1 1] 26)).drew).heap[W.heap.size]? = some (.cells #[.int .i64 x] 3 (0, 0)) := blk_drew (blk_alloc (heap_alloc_new W _) _)
  have cc := concat_legs (W.heap.size + 1) W.heap.size la n lc ls x (((W.alloc (.cells #[.int .i64 x] 3)).alloc (.cells #[.slice la n lc, .slice (some ⟨W.heap.size, 0, none⟩) 1 1] 26)).drew) HL.out hn hl1 (hx.below (after hb0 hb1)) (blk_cell hl2 0 _ rfl) hna
  have CC : Hid _ := cc
  have keepS : Hid (∀ w', Kept W w' (fun b => b = w.heap.size + 1 + 1) → w'.cell? ⟨w.heap.size, 0, none⟩ = some (.slice la n lc) ∧ w'.cell? ⟨w.heap.size + 1, 0, none⟩ = some (.int .i64 x) ∧ w'.cell? ⟨w.heap.size + 1, 2, none⟩ = some (.string tt) ∧ w'.cell? ⟨w.heap.size + 1, 4, none⟩ = some (.int .i64 a)) :=
    fun w' hk => ⟨blk_cell (hk.blk hr0 (by omega)) 0 _ rfl, blk_cell (hk.blk hs0 (by omega)) 0 _ rfl, blk_cell (hk.blk hs0 (by omega)) 2 _ rfl, blk_cell (hk.blk hs0 (by omega)) 4 _ rfl⟩
  have KD : Hid (Kept W W.drew (fun b => b = w.heap.size + 1 + 1)) := Kept.of_below (Below.refl _ _).drew
  have KP : Hid (∀ o, Kept W (W.alloc o) (fun b => b = w.heap.size + 1 + 1)) := fun o => Kept.of_below (push (Below.refl _ _) _)
  have KPD : Hid (∀ o, Kept W (W.alloc o).drew (fun b => b = w.heap.size + 1 + 1)) := fun o => Kept.of_below (push (Below.refl _ _) _).drew
  have KPP : Hid (∀ o p, Kept W ((W.alloc o).alloc p) (fun b => b = w.heap.size + 1 + 1)) := fun o p => Kept.of_below (push (push (Below.refl _ _) _) _)
  have KPPD : Hid (∀ o p, Kept W ((W.alloc o).alloc p).drew (fun b => b = w.heap.size + 1 + 1)) := fun o p => Kept.of_below (push (push (Below.refl _ _) _) _).drew
  have KS : Hid (∀ w', Kept W w' (fun b => b = w.heap.size + 1 + 1) → ∀ u1 u2 u3, Kept W (((w'.setCell ⟨w.heap.size + 1 + 1, 0, none⟩ u1).setCell ⟨w.heap.size + 1 + 1, 1, none⟩ u2).setCell ⟨w.heap.size + 1 + 1, 2, none⟩ u3) (fun b => b = w.heap.size + 1 + 1)) := fun w' hk u1 u2 u3 => ((hk.set (a := ⟨w.heap.size + 1 + 1, 0, none⟩) rfl _).set (a := ⟨w.heap.size + 1 + 1, 1, none⟩) rfl _).set (a := ⟨w.heap.size + 1 + 1, 2, none⟩) rfl _
  have q0 := blk_cell hr0 0 _ rfl
  have q1 := blk_cell hs0 0 _ rfl
  have q2 := blk_cell hs0 2 _ rfl
  have q3 := blk_cell hs0 4 _ rfl
  have HB1 : Hid (Below W.heap.size W (((W.alloc (.cells #[.int .i64 x] 3)).alloc (.cells #[.slice la n lc, .slice (some ⟨W.heap.size, 0, none⟩) 1 1] 26)).drew)) := hb1
  have HZ : Hid (W.heap[w.heap.size + 1 + 1]? = some (.cells #[.slice none 0 0, .string ⟨#[]⟩, .int .i64 0] 50 (0, 0))) := hz0
  have HB0 : Hid (Below w.heap.size w W) := hb0
  clear cc hl1 hl2 hb1 hr0 hs0 hz0 hb0 hx
  go_region_held3 (fun w' => w'.cell? ⟨w.heap.size, 0, none⟩ = some (.slice la n lc) ∧ w'.cell? ⟨w.heap.size + 1, 0, none⟩ = some (.int .i64 x) ∧ w'.cell? ⟨w.heap.size + 1, 2, none⟩ = some (.string tt) ∧ w'.cell? ⟨w.heap.size + 1, 4, none⟩ = some (.int .i64 a))
    (first | with_reducible exact ⟨q0, q1, q2, q3⟩ | with_reducible exact keepS.out _ KD.out | with_reducible exact keepS.out _ (KP.out _) | with_reducible exact keepS.out _ (KPD.out _) | with_reducible exact keepS.out _ (KPP.out _ _) | with_reducible exact keepS.out _ (KPPD.out _ _) | with_reducible exact keepS.out _ (Kept.of_below (after HB1.out hb3)) | with_reducible exact keepS.out _ (KS.out _ (Kept.of_below (after HB1.out hb3)) _ _ _))
    (first | (go_at_call 36; refine Calls.mono CC.out ?_; rintro e w3 ⟨⟨aC, cC, rfl, ho⟩, hb3⟩; have z3 := blk_below HZ.out (after HB1.out hb3); have o0 := blk_cell z3 0 _ rfl; have o1 := blk_cell z3 1 _ rfl; have o2 := blk_cell z3 2 _ rfl; have f0 := blk_free z3 0; have f1 := blk_free z3 1; have f2 := blk_free z3 2))
  go_wp2
  clear q0 q1 q2 q3 o0 o1 o2 f0 f1 f2
  have hBs : w.heap.size + 1 + 1 < (((W.alloc (.cells #[.int .i64 x] 3)).alloc (.cells #[.slice la n lc, .slice (some ⟨W.heap.size, 0, none⟩) 1 1] 26)).drew).heap.size := by
    have h1 := HB1.out.size
    have h2 := HSZ.out
    omega
  have rF := blk_set (blk_set (blk_set z3 0 (.slice aC (n + 1) cC)) 1 (.string tt)) 2 (.int .i64 a)
  have y0 := blk_cell rF 0 _ rfl
  have y1 := blk_cell rF 1 _ rfl
  have y2 := blk_cell rF 2 _ rfl
  refine bodyPost_ret (v := .agg #[.slice aC (n + 1) cC, .string tt, .int .i64 a]) (by simp [results, Try.results25, go_sem, y0, y1, y2]) rfl ⟨aC, cC, rfl, ?_, ?_⟩
  · exact own_base (own_set (own_set (own_set ho (by show w.heap.size + 1 + 1 < _; exact hBs) _) (by show w.heap.size + 1 + 1 < _; exact hBs) _) (by show w.heap.size + 1 + 1 < _; exact hBs) _) (by omega)
  · have hb := after HB0.out (after HB1.out hb3)
    exact ((hb.setCell (by show w.heap.size ≤ w.heap.size + 1 + 1; omega) _).setCell (by show w.heap.size ≤ w.heap.size + 1 + 1; omega) _).setCell (by show w.heap.size ≤ w.heap.size + 1 + 1; omega) _

set_option maxHeartbeats 800000 in
set_option maxRecDepth 100000 in
/-- findSailing: where the first sailing with the Id stands, and whether there is one. -/
theorem findSailing_any (ao : Option Addr) (N c : Nat) (S : Nat → Sail) (x : Int) (w : World) (hN : N ≤ 1048576) (hx : SailsAt w ao N S) :
    Calls Try.prog 23 #[.slice ao N c, .int .i64 x] w fun e w' => ((findIx S x N < N ∧ e = .returned (.tuple #[.int .i64 (findIx S x N), .bool true])) ∨ (findIx S x N = N ∧ e = .returned (.tuple #[.int .i64 0, .bool false]))) ∧ Below w.heap.size w w' := by
  go_enter Try.func23, Try.ntmps23
  go_wp2
  go_loopw [6, 7, 10] (fun _ _ i wr => ∃ k : Nat, k ≤ N ∧ i = .int .i64 k ∧ (∀ j, j < k → (S j).id ≠ x) ∧ Below w.heap.size w wr) (fun _ _ i _ => N - (intOf i).toNat)
  case atStart => exact ⟨0, Nat.zero_le _, rfl, fun j hj => by omega, Below.refl _ _⟩
  case round =>
    obtain ⟨k, hk, rfl, hall, hbel⟩ := hrel
    have HA : Hid (∀ j, j < k → (S j).id ≠ x) := hall
    clear hall
    by_cases hlt : k < N
    · obtain ⟨b, off, la, lc, ca, cc, rfl, h0, h1, h2, h3, h4, h5, h6, h7, _, _, _, _⟩ := hx k hlt
      have hb := World.block_lt_of_cell? w _ h1
      have c0 := (hbel.cell (p := ⟨b, off + k * 8, none⟩) hb).trans h0
      have c1 := (hbel.cell (p := ⟨b, off + k * 8 + 1, none⟩) hb).trans h1
      have c2 := (hbel.cell (p := ⟨b, off + k * 8 + 2, none⟩) hb).trans h2
      have c3 := (hbel.cell (p := ⟨b, off + k * 8 + 3, none⟩) hb).trans h3
      have c4 := (hbel.cell (p := ⟨b, off + k * 8 + 4, none⟩) hb).trans h4
      have c5 := (hbel.cell (p := ⟨b, off + k * 8 + 5, none⟩) hb).trans h5
      have c6 := (hbel.cell (p := ⟨b, off + k * 8 + 6, none⟩) hb).trans h6
      have c7 := (hbel.cell (p := ⟨b, off + k * 8 + 7, none⟩) hb).trans h7
      clear h0 h1 h2 h3 h4 h5 h6 h7
      by_cases he : (S k).id = x
      · have e1 : ((S k).id == x) = true := by simpa using he
        have HF : Hid (findIx S x N = k) := findIx_is hlt he HA.out
        clear he
        go_wp2
        exact bodyPost_ret (v := .tuple #[.int .i64 k, .bool true]) (by simp [results, Try.results23, go_sem]) rfl ⟨.inl ⟨by rw [HF.out]; exact hlt, by rw [HF.out]⟩, push hbel _⟩
      · have e1 : ((S k).id == x) = false := by simpa using he
        have HE : Hid ((S k).id ≠ x) := he
        clear he
        go_wp2
        go_roundw
        case rel => exact ⟨k + 1, by omega, by go_num, fun j hj => by
          by_cases e : j = k
          · subst e; exact HE.out
          · exact HA.out j (by omega), push hbel _⟩
        case measure => simp [intOf]; omega
    · obtain rfl : k = N := by omega
      have HF : Hid (findIx S x k = k) := findIx_none HA.out
      go_wp2
      exact bodyPost_ret (v := .tuple #[.int .i64 0, .bool false]) (by simp [results, Try.results23, go_sem]) rfl ⟨.inr ⟨HF.out, rfl⟩, hbel⟩

end Go.Proofs.Ythcjfoaejomfaaa

namespace Go.Proofs.Ythcjfoaejomfaaa
open Go.RowKit

/-- The sailings at block b from cell off on, their lists' slices named. -/
def SailsIn (w : World) (b off N : Nat) (S : Nat → Sail) (la ca : Nat → Option Addr) (lc cc : Nat → Nat) : Prop :=
  ∀ k, k < N → w.cell? ⟨b, off + k * 8, none⟩ = some (.int .i64 (S k).id) ∧ w.cell? ⟨b, off + k * 8 + 1, none⟩ = some (.string (S k).fr) ∧
    w.cell? ⟨b, off + k * 8 + 2, none⟩ = some (.string (S k).dst) ∧ w.cell? ⟨b, off + k * 8 + 3, none⟩ = some (.int .i64 (S k).dep) ∧ w.cell? ⟨b, off + k * 8 + 4, none⟩ = some (.int .i64 (S k).arr) ∧
    w.cell? ⟨b, off + k * 8 + 5, none⟩ = some (.slice (la k) (S k).la.n (lc k)) ∧ w.cell? ⟨b, off + k * 8 + 6, none⟩ = some (.slice (ca k) (S k).ca.n (cc k)) ∧ w.cell? ⟨b, off + k * 8 + 7, none⟩ = some (.int .i64 (S k).most)
theorem SailsIn.below {w w' : World} {b off N : Nat} {S : Nat → Sail} {la ca : Nat → Option Addr} {lc cc : Nat → Nat} (h : SailsIn w b off N S la ca lc cc) (hb : Below w.heap.size w w') : SailsIn w' b off N S la ca lc cc := by
  intro k hk
  obtain ⟨h0, h1, h2, h3, h4, h5, h6, h7⟩ := h k hk
  have hlt : b < w.heap.size := World.block_lt_of_cell? w _ h1
  exact ⟨(hb.cell hlt).trans h0, (hb.cell hlt).trans h1, (hb.cell hlt).trans h2, (hb.cell hlt).trans h3, (hb.cell hlt).trans h4, (hb.cell hlt).trans h5, (hb.cell hlt).trans h6, (hb.cell hlt).trans h7⟩
theorem sails_in {w : World} {ao : Option Addr} {N : Nat} {S : Nat → Sail} (h : SailsAt w ao N S) (hN : 0 < N) : ∃ b off la ca lc cc, ao = some ⟨b, off, none⟩ ∧ b < w.heap.size ∧ SailsIn w b off N S la ca lc cc := by
  obtain ⟨b, off, _, _, _, _, rfl, h0, _⟩ := h 0 hN
  have hlt : b < w.heap.size := World.block_lt_of_cell? w _ h0
  have key : ∀ k, ∃ y : Option Addr × Option Addr × Nat × Nat, k < N → w.cell? ⟨b, off + k * 8, none⟩ = some (.int .i64 (S k).id) ∧ w.cell? ⟨b, off + k * 8 + 1, none⟩ = some (.string (S k).fr) ∧
    w.cell? ⟨b, off + k * 8 + 2, none⟩ = some (.string (S k).dst) ∧ w.cell? ⟨b, off + k * 8 + 3, none⟩ = some (.int .i64 (S k).dep) ∧ w.cell? ⟨b, off + k * 8 + 4, none⟩ = some (.int .i64 (S k).arr) ∧
    w.cell? ⟨b, off + k * 8 + 5, none⟩ = some (.slice y.1 (S k).la.n y.2.2.1) ∧ w.cell? ⟨b, off + k * 8 + 6, none⟩ = some (.slice y.2.1 (S k).ca.n y.2.2.2) ∧ w.cell? ⟨b, off + k * 8 + 7, none⟩ = some (.int .i64 (S k).most) := by
    intro k
    by_cases hk : k < N
    · obtain ⟨b', off', la, lc, ca, cc, e, g0, g1, g2, g3, g4, g5, g6, g7, _⟩ := h k hk
      simp only [Option.some.injEq, Addr.mk.injEq, and_true] at e
      obtain ⟨rfl, rfl⟩ := e
      exact ⟨(la, ca, lc, cc), fun _ => ⟨g0, g1, g2, g3, g4, g5, g6, g7⟩⟩
    · exact ⟨(none, none, 0, 0), fun h => absurd h hk⟩
  refine ⟨b, off, fun k => (Classical.choose (key k)).1, fun k => (Classical.choose (key k)).2.1, fun k => (Classical.choose (key k)).2.2.1, fun k => (Classical.choose (key k)).2.2.2, rfl, hlt, fun k hk => Classical.choose_spec (key k) hk⟩

/-- The cells of the sailings K 0, K 1, .. -/
def rowOf (S : Nat → Sail) (la ca : Nat → Option Addr) (lc cc : Nat → Nat) (K : Nat → Nat) (j : Nat) : Value :=
  sailCell (fun i => S (K i)) (fun i => .slice (la (K i)) (S (K i)).la.n (lc (K i))) (fun i => .slice (ca (K i)) (S (K i)).ca.n (cc (K i))) j
def valsOf (S : Nat → Sail) (la ca : Nat → Option Addr) (lc cc : Nat → Nat) (k : Nat) : List Value :=
  [.int .i64 (S k).id, .string (S k).fr, .string (S k).dst, .int .i64 (S k).dep, .int .i64 (S k).arr, .slice (la k) (S k).la.n (lc k), .slice (ca k) (S k).ca.n (cc k), .int .i64 (S k).most]
theorem rowOf_snoc (S : Nat → Sail) (la ca : Nat → Option Addr) (lc cc : Nat → Nat) (K : Nat → Nat) (m k : Nat) :
    (List.range ((m + 1) * 8)).map (rowOf S la ca lc cc (upd K m k)) = (List.range (m * 8)).map (rowOf S la ca lc cc K) ++ valsOf S la ca lc cc k := by
  rw [show (m + 1) * 8 = m * 8 + 1 + 1 + 1 + 1 + 1 + 1 + 1 + 1 by omega, List.range_succ, List.range_succ, List.range_succ, List.range_succ, List.range_succ, List.range_succ, List.range_succ, List.range_succ]
  simp only [List.map_append, List.map_cons, List.map_nil, List.append_assoc, List.cons_append, List.nil_append]
  unfold rowOf valsOf
  rw [sailCell_0, sailCell_1, show m * 8 + 1 + 1 = m * 8 + 2 by omega, sailCell_2, show m * 8 + 2 + 1 = m * 8 + 3 by omega, sailCell_3, show m * 8 + 3 + 1 = m * 8 + 4 by omega, sailCell_4, show m * 8 + 4 + 1 = m * 8 + 5 by omega, sailCell_5, show m * 8 + 5 + 1 = m * 8 + 6 by omega, sailCell_6, show m * 8 + 6 + 1 = m * 8 + 7 by omega, sailCell_7, upd_at]
  congr 1
  refine List.map_congr_left fun j hj => ?_
  have hj' : j < m * 8 := by simpa using hj
  unfold sailCell
  simp only [upd_ne _ _ _ (show j / 8 ≠ m by omega)]

/-- The first n sailings that are caught, m of them. -/
def Caught (S : Nat → Sail) (pl : ByteArray) (t : Int) (n m : Nat) (K : Nat → Nat) : Prop :=
  m ≤ n ∧ (∀ j, j < m → K j < n ∧ catchB pl t (S (K j)).fr (S (K j)).dep = true) ∧ ∀ k, k < n → catchB pl t (S k).fr (S k).dep = true → ∃ j, j < m ∧ K j = k
/-- What those answers. -/
def Those (e : Ending) (w w' : World) (N : Nat) (S : Nat → Sail) (la ca : Nat → Option Addr) (lc cc : Nat → Nat) (pl : ByteArray) (t : Int) : Prop :=
  ∃ ao m c K, e = .returned (.slice ao m c) ∧ Caught S pl t N m K ∧ w'.ownsRow w.heap.size 33 8 (.slice ao m c) m ((List.range (m * 8)).map (rowOf S la ca lc cc K)) ∧ Below w.heap.size w w'

set_option maxHeartbeats 3200000 in
set_option maxRecDepth 100000 in
theorem those_any (b off N c : Nat) (S : Nat → Sail) (la ca : Nat → Option Addr) (lc cc : Nat → Nat) (va : Option Addr) (n vc : Nat) (pl : ByteArray) (t : Int) (w : World) (hN : N ≤ 1048576) (hx : SailsIn w b off N S la ca lc cc) :
    Calls Try.prog 34 #[.slice (some ⟨b, off, none⟩) N c, .func (.func 24) #[.agg #[.slice va n vc, .string pl, .int .i64 t]] #[]] w fun e w' => Those e w w' N S la ca lc cc pl t := by
  obtain ⟨j0, ji, jz0, jz1, jz2⟩ := info_parts Try.infoSailing
  go_enter Try.func34, Try.ntmps34
  go_wp2
  go_loopw [5, 7, 10] (fun v _ i wr => ∃ (k m : Nat) (K : Nat → Nat), k ≤ N ∧ i = .int .i64 k ∧ Caught S pl t k m K ∧ wr.ownsRow w.heap.size 33 8 v m ((List.range (m * 8)).map (rowOf S la ca lc cc K)) ∧ Below w.heap.size w wr) (fun _ _ i _ => N - (intOf i).toNat)
  case atStart => exact ⟨0, 0, fun _ => 0, Nat.zero_le _, rfl, ⟨Nat.le_refl _, fun j hj => by omega, fun k hk => by omega⟩, World.ownsRow_nil _ _ _ _, Below.refl _ _⟩
  case round =>
    obtain ⟨k, m, K, hk, rfl, hca, ho, hbel⟩ := hrel
    have HC : Hid (Caught S pl t k m K) := hca
    have HO : Hid (wr.ownsRow w.heap.size 33 8 u5 m ((List.range (m * 8)).map (rowOf S la ca lc cc K))) := ho
    have hmk := hca.1
    clear hca ho
    by_cases hlt : k < N
    · obtain ⟨h0, h1, h2, h3, h4, h5, h6, h7⟩ := hx k hlt
      have hb := World.block_lt_of_cell? w _ h1
      have c0 := (hbel.cell (p := ⟨b, off + k * 8, none⟩) hb).trans h0
      have c1 := (hbel.cell (p := ⟨b, off + k * 8 + 1, none⟩) hb).trans h1
      have c2 := (hbel.cell (p := ⟨b, off + k * 8 + 2, none⟩) hb).trans h2
      have c3 := (hbel.cell (p := ⟨b, off + k * 8 + 3, none⟩) hb).trans h3
      have c4 := (hbel.cell (p := ⟨b, off + k * 8 + 4, none⟩) hb).trans h4
      have c5 := (hbel.cell (p := ⟨b, off + k * 8 + 5, none⟩) hb).trans h5
      have c6 := (hbel.cell (p := ⟨b, off + k * 8 + 6, none⟩) hb).trans h6
      have c7 := (hbel.cell (p := ⟨b, off + k * 8 + 7, none⟩) hb).trans h7
      clear h0 h1 h2 h3 h4 h5 h6 h7
      have hbx := push hbel (.cells #[.int .i64 (S k).id, .string (S k).fr, .string (S k).dst, .int .i64 (S k).dep, .int .i64 (S k).arr, .slice (la k) (S k).la.n (lc k), .slice (ca k) (S k).ca.n (cc k), .int .i64 (S k).most] 33)
      have hbox := heap_alloc_new wr (.cells #[.int .i64 (S k).id, .string (S k).fr, .string (S k).dst, .int .i64 (S k).dep, .int .i64 (S k).arr, .slice (la k) (S k).la.n (lc k), .slice (ca k) (S k).ca.n (cc k), .int .i64 (S k).most] 33)
      have hown1 := own_below (push (Below.refl _ wr) (.cells #[.int .i64 (S k).id, .string (S k).fr, .string (S k).dst, .int .i64 (S k).dep, .int .i64 (S k).arr, .slice (la k) (S k).la.n (lc k), .slice (ca k) (S k).ca.n (cc k), .int .i64 (S k).most] 33)) HO.out
      have HO1 : Hid _ := hown1
      clear hown1
      go_wp2_with fail
      refine (catches_is va n vc pl t (S k).id (S k).dep (S k).arr (S k).most (S k).fr (S k).dst _ _ _ _ _ _ _).mono ?_
      rintro e w2 ⟨rfl, hb2⟩
      have hbox2 := blk_below hbox hb2
      have hbel2 := after hbx hb2
      have HO2 : Hid (w2.ownsRow w.heap.size 33 8 u5 m ((List.range (m * 8)).map (rowOf S la ca lc cc K))) := own_below hb2 HO1.out
      clear hbx hbox hb2 HO1 HO hbel c0 c1 c2 c3 c4 c5 c6 c7
      by_cases hcb : catchB pl t (S k).fr (S k).dep = true
      · have b0 := blk_cell hbox2 0 _ rfl
        have b1 := blk_cell hbox2 1 _ rfl
        have b2 := blk_cell hbox2 2 _ rfl
        have b3 := blk_cell hbox2 3 _ rfl
        have b4 := blk_cell hbox2 4 _ rfl
        have b5 := blk_cell hbox2 5 _ rfl
        have b6 := blk_cell hbox2 6 _ rfl
        have b7 := blk_cell hbox2 7 _ rfl
        have hnb := heap_alloc_new w2 (.cells #[.int .i64 (S k).id, .string (S k).fr, .string (S k).dst, .int .i64 (S k).dep, .int .i64 (S k).arr, .slice (la k) (S k).la.n (lc k), .slice (ca k) (S k).ca.n (cc k), .int .i64 (S k).most] 33)
        have HNW : Hid (∀ j u, (valsOf S la ca lc cc k)[j]? = some u → (w2.alloc (.cells #[.int .i64 (S k).id, .string (S k).fr, .string (S k).dst, .int .i64 (S k).dep, .int .i64 (S k).arr, .slice (la k) (S k).la.n (lc k), .slice (ca k) (S k).ca.n (cc k), .int .i64 (S k).most] 33)).cell? ((⟨w2.heap.size, 0, none⟩ : Addr).add j) = some u) := World.news_of_block hnb
        have hbn := push (Below.refl _ w2) (.cells #[.int .i64 (S k).id, .string (S k).fr, .string (S k).dst, .int .i64 (S k).dep, .int .i64 (S k).arr, .slice (la k) (S k).la.n (lc k), .slice (ca k) (S k).ca.n (cc k), .int .i64 (S k).most] 33)
        have HO3 : Hid _ := own_below hbn HO2.out
        have hbel3 := after hbel2 hbn
        have hsz := hbel3.size
        have H1 : Hid (∀ u ∈ valsOf S la ca lc cc k, u.oneCell' = true) := by intro u hu; simp [valsOf] at hu; rcases hu with rfl | rfl | rfl | rfl | rfl | rfl | rfl | rfl <;> rfl
        clear hnb hbn
        go_wp2_with (first | (at_builtin; refine wpList_append_any _ (by rfl) (.tmp 17) (.tmp 19) 23 (by rfl) w.heap.size 33 j0 (.agg #[.int .i64 0, .string ⟨#[]⟩, .string ⟨#[]⟩, .int .i64 0, .int .i64 0, .slice none 0 0, .slice none 0 0, .int .i64 0]) 8 112 Try.underlying23 ji jz0 jz1 jz2 rfl (by decide) _ m _ (by rfl) HO3.out (some ⟨w2.heap.size, 0, none⟩) 1 1 (valsOf S la ca lc cc k) (by rfl) (fun h => (by cases h)) (by rfl) (fun ad e => by cases e; exact HNW.out) H1.out (by unfold maxLen; omega) (by omega) hsz ?_; intro v' w4 ho4 hg4))
        go_roundw
        case rel =>
          refine ⟨k + 1, m + 1, upd K m k, by omega, by go_num, ⟨by omega, fun j hj => ?_, fun q hq hc => ?_⟩, by rw [rowOf_snoc]; exact ho4, hbel3.grown hg4 hsz (fun j hj => (HO2.out.lt j hj).1)⟩
          · by_cases e : j = m
            · subst e; rw [upd_at]; exact ⟨by omega, hcb⟩
            · rw [upd_ne _ _ _ e]; have := HC.out.2.1 j (by omega); exact ⟨by omega, this.2⟩
          · by_cases e : q = k
            · subst e; exact ⟨m, by omega, upd_at _ _ _⟩
            · obtain ⟨j, hj, e2⟩ := HC.out.2.2 q (by omega) hc
              exact ⟨j, by omega, by rw [upd_ne _ _ _ (by omega)]; exact e2⟩
        case measure => simp [intOf]; omega
      · have hcb := Bool.eq_false_iff.2 hcb
        go_wp2
        go_roundw
        case rel =>
          refine ⟨k + 1, m, K, by omega, by go_num, ⟨by omega, fun j hj => ?_, fun q hq hc => ?_⟩, HO2.out, hbel2⟩
          · have := HC.out.2.1 j hj; exact ⟨by omega, this.2⟩
          · by_cases e : q = k
            · subst e; rw [hcb] at hc; cases hc
            · exact HC.out.2.2 q (by omega) hc
        case measure => simp [intOf]; omega
    · obtain rfl : k = N := by omega
      obtain ⟨ao', c', e', _⟩ := own_form HO.out
      have HO' := HO.out
      rw [e'] at HO'
      have HO2 : Hid _ := HO'
      subst e'
      clear HO HO'
      go_wp2
      go_ret
      exact ⟨ao', m, c', K, rfl, HC.out, HO2.out, hbel⟩

end Go.Proofs.Ythcjfoaejomfaaa
