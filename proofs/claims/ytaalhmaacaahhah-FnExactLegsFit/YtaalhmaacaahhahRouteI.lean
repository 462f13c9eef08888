/-
  OWN TEXT: contracts of route.catches, route.with, findSailing.
-/
import Derived.Test.YtaalhmaacaahhahConcatI
import Derived.Test.YtaalhmaacaahhahPlainF
import Derived.Deep.RegionHeld3
import Derived.Deep.DeepCutAuto
namespace Go.Proofs.Ytaalhmaacaahhah
open Go.RowKit

def catchB (pl : ByteArray) (t : Int) (fr : ByteArray) (d : Int) : Bool := (fr.toList == pl.toList) && decide (t ≤ d)
theorem catchB_iff {pl fr : ByteArray} {t d : Int} : catchB pl t fr d = true ↔ fr = pl ∧ t ≤ d := by
  unfold catchB
  rw [Bool.and_eq_true, bytes_eq, decide_eq_true_iff]

set_option maxHeartbeats 800000 in
theorem catches_is (la : Option Addr) (n lc : Nat) (pl : ByteArray) (t x d a mo : Int) (fr tt : ByteArray) (lo co : Option Addr) (m1 m2 c1 c2 : Nat) (w : World) :
    Calls Try.prog 45 #[.agg #[.slice la n lc, .string pl, .int .i64 t], .agg #[.int .i64 x, .string fr, .string tt, .int .i64 d, .int .i64 a, .slice lo m1 c1, .slice co m2 c2, .int .i64 mo]] w fun e w' => e = .returned (.bool (catchB pl t fr d)) ∧ Below w.heap.size w w' := by
  obtain ⟨q, hq⟩ : ∃ q, q = catchB pl t fr d := ⟨_, rfl⟩
  rw [← hq]
  have HC : Hid (q = catchB pl t fr d) := hq
  clear hq
  by_cases h1 : fr = pl
  · have e1 : (fr.toList == pl.toList) = true := bytes_eq.2 h1
    have H1 : Hid (fr = pl) := h1
    clear h1
    by_cases h2 : t ≤ d
    · have e2 : decide (t ≤ d) = true := by simpa using h2
      go_enter Try.func45, Try.ntmps45
      go_wp2
      go_ret
      exact ⟨by rw [HC.out, catchB_iff.2 ⟨H1.out, h2⟩]; rfl, push (push (Below.refl _ _) _) _⟩
    · have e2 : decide (t ≤ d) = false := by simpa using h2
      go_enter Try.func45, Try.ntmps45
      go_wp2
      go_ret
      exact ⟨by rw [HC.out, show catchB pl t fr d = false from Bool.eq_false_iff.2 (fun h => by have := (catchB_iff.1 h).2; omega)]; rfl, push (push (Below.refl _ _) _) _⟩
  · have e1 : (fr.toList == pl.toList) = false := bytes_ne.2 h1
    have H1 : Hid (¬ fr = pl) := h1
    clear h1
    go_enter Try.func45, Try.ntmps45
    go_wp2
    go_ret
    exact ⟨by rw [HC.out, Bool.eq_false_iff.2 (fun h => H1.out (catchB_iff.1 h).1)]; rfl, push (push (Below.refl _ _) _) _⟩

set_option maxHeartbeats 1600000 in
set_option maxRecDepth 100000 in
theorem with_any (la : Option Addr) (n lc : Nat) (ls : List Int) (pl : ByteArray) (t x d a mo : Int) (fr tt : ByteArray) (lo co : Option Addr) (m1 m2 c1 c2 : Nat) (w : World) (hl : ls.length = n) (hn : n ≤ 1048576) (hx : IntsAt w la n (getI ls)) (hna : la = none → n = 0 ∧ lc = 0) :
    Calls Try.prog 46 #[.agg #[.slice la n lc, .string pl, .int .i64 t], .agg #[.int .i64 x, .string fr, .string tt, .int .i64 d, .int .i64 a, .slice lo m1 c1, .slice co m2 c2, .int .i64 mo]] w fun e w' => ∃ ao c, e = .returned (.agg #[.slice ao (n + 1) c, .string tt, .int .i64 a]) ∧ w'.ownsRow w.heap.size 3 1 (.slice ao (n + 1) c) (n + 1) (cellsI (ls ++ [x])) ∧ Below w.heap.size w w' := by
  have HL : Hid (ls.length = n) := hl
  clear hl
  go_enter Try.func46, Try.ntmps46
  go_upto_region 1 with fail
  have hr0 : (((w.alloc (.cells #[.slice la n lc, .string pl, .int .i64 t] 68)).alloc (.cells #[.int .i64 x, .string fr, .string tt, .int .i64 d, .int .i64 a, .slice lo m1 c1, .slice co m2 c2, .int .i64 mo] 62)).alloc (.cells #[.slice none 0 0, .string ⟨#[]⟩, .int .i64 0] 68)).heap[w.heap.size]? = some (.cells #[.slice la n lc, .string pl, .int .i64 t] 68 (0, 0)) := blk_alloc (blk_alloc (heap_alloc_new w _) _) _
  have hs0 : (((w.alloc (.cells #[.slice la n lc, .string pl, .int .i64 t] 68)).alloc (.cells #[.int .i64 x, .string fr, .string tt, .int .i64 d, .int .i64 a, .slice lo m1 c1, .slice co m2 c2, .int .i64 mo] 62)).alloc (.cells #[.slice none 0 0, .string ⟨#[]⟩, .int .i64 0] 68)).heap[w.heap.size + 1]? = some (.cells #[.int .i64 x, .string fr, .string tt, .int .i64 d, .int .i64 a, .slice lo m1 c1, .slice co m2 c2, .int .i64 mo] 62 (0, 0)) := blk_alloc (by simpa using heap_alloc_new (w.alloc _) _) _
  have hz0 : (((w.alloc (.cells #[.slice la n lc, .string pl, .int .i64 t] 68)).alloc (.cells #[.int .i64 x, .string fr, .string tt, .int .i64 d, .int .i64 a, .slice lo m1 c1, .slice co m2 c2, .int .i64 mo] 62)).alloc (.cells #[.slice none 0 0, .string ⟨#[]⟩, .int .i64 0] 68)).heap[w.heap.size + 1 + 1]? = some (.cells #[.slice none 0 0, .string ⟨#[]⟩, .int .i64 0] 68 (0, 0)) := by simpa using heap_alloc_new ((w.alloc _).alloc _) _
  have hb0 : Below w.heap.size w (((w.alloc (.cells #[.slice la n lc, .string pl, .int .i64 t] 68)).alloc (.cells #[.int .i64 x, .string fr, .string tt, .int .i64 d, .int .i64 a, .slice lo m1 c1, .slice co m2 c2, .int .i64 mo] 62)).alloc (.cells #[.slice none 0 0, .string ⟨#[]⟩, .int .i64 0] 68)) := push (push (push (Below.refl _ _) _) _) _
  have hsz0 : (((w.alloc (.cells #[.slice la n lc, .string pl, .int .i64 t] 68)).alloc (.cells #[.int .i64 x, .string fr, .string tt, .int .i64 d, .int .i64 a, .slice lo m1 c1, .slice co m2 c2, .int .i64 mo] 62)).alloc (.cells #[.slice none 0 0, .string ⟨#[]⟩, .int .i64 0] 68)).heap.size = w.heap.size + 1 + 1 + 1 := by simp
  generalize hW : ((w.alloc (.cells #[.slice la n lc, .string pl, .int .i64 t] 68)).alloc (.cells #[.int .i64 x, .string fr, .string tt, .int .i64 d, .int .i64 a, .slice lo m1 c1, .slice co m2 c2, .int .i64 mo] 62)).alloc (.cells #[.slice none 0 0, .string ⟨#[]⟩, .int .i64 0] 68) = W at hr0 hs0 hz0 hb0 hsz0 ⊢
  clear hW
  have HSZ : Hid (W.heap.size = w.heap.size + 1 + 1 + 1) := hsz0
  clear hsz0
  have hb1 : Below W.heap.size W (((W.alloc (.cells #[.int .i64 x] 3)).alloc (.cells #[.slice la n lc, .slice (some ⟨W.heap.size, 0, none⟩) 1 1] 29)).drew) := (push (push (Below.refl _ W) _) _).drew
  have hl1 : (((W.alloc (.cells #[.int .i64 x] 3)).alloc (.cells #[.slice la n lc, .slice (some ⟨W.heap.size, 0, none⟩) 1 1] 29)).drew).heap[W.heap.size + 1]? = some (.cells #[.slice la n lc, .slice (some ⟨W.heap.size, 0, none⟩) 1 1] 29 (0, 0)) := blk_drew (by simpa using heap_alloc_new (W.alloc _) _)
  have hl2 : (((W.alloc (.cells #[.int .i64 x] 3)).alloc (.cells #[.slice la n lc, .slice (some ⟨W.heap.size, 0, none⟩) 1 1] 29)).drew).heap[W.heap.size]? = some (.cells #[.int .i64 x] 3 (0, 0)) := blk_drew (blk_alloc (heap_alloc_new W _) _)
  have cc := concat_legs (W.heap.size + 1) W.heap.size la n lc ls x (((W.alloc (.cells #[.int .i64 x] 3)).alloc (.cells #[.slice la n lc, .slice (some ⟨W.heap.size, 0, none⟩) 1 1] 29)).drew) HL.out hn hl1 (hx.below (after hb0 hb1)) (blk_cell hl2 0 _ rfl) hna
  have CC : Hid _ := cc
  have keepS : Hid (∀ w', Kept W w' (fun b => b = w.heap.size + 1 + 1) → w'.cell? ⟨w.heap.size, 0, none⟩ = some (.slice la n lc) ∧ w'.cell? ⟨w.heap.size + 1, 0, none⟩ = some (.int .i64 x) ∧ w'.cell? ⟨w.heap.size + 1, 2, none⟩ = some (.string tt) ∧ w'.cell? ⟨w.heap.size + 1, 4, none⟩ = some (.int .i64 a)) :=
    fun w' hk => ⟨blk_cell (hk.blk hr0 (by omega)) 0 _ rfl, blk_cell (hk.blk hs0 (by omega)) 0 _ rfl, blk_cell (hk.blk hs0 (by omega)) 2 _ rfl, blk_cell (hk.blk hs0 (by omega)) 4 _ rfl⟩
  have KD : Hid (Kept W W.drew (fun b => b = w.heap.size + 1 + 1)) := Kept.of_below (Below.refl _ _).drew
  have KP : Hid (∀ o, Kept W (W.alloc o) (fun b => b = w.heap.size + 1 + 1)) := fun o => Kept.of_below (push (Below.refl _ _) _)
  have KPD : Hid (∀ o, Kept W (W.alloc o).drew (fun b => b = w.heap.size + 1 + 1)) := fun o => Kept.of_below (push (Below.refl _ _) _).drew
  have KPP : Hid (∀ o p, Kept W ((W.alloc o).alloc p) (fun b => b = w.heap.size + 1 + 1)) := fun o p => Kept.of_below (push (push (Below.refl _ _) _) _)
  have KPPD : Hid (∀ o p, Kept W ((W.alloc o).alloc p).drew (fun b => b = w.heap.size + 1 + 1)) := fun o p => Kept.of_below (push (push (Below.refl _ _) _) _).drew
  have KS : Hid (∀ w', Kept W w' (fun b => b = w.heap.size + 1 + 1) → ∀ u1 u2 u3, Kept W (((w'.setCell ⟨w.heap.size + 1 + 1, 0, none⟩ u1).setCell ⟨w.heap.size + 1 + 1, 1, none⟩ u2).setCell ⟨w.heap.size + 1 + 1, 2, none⟩ u3) (fun b => b = w.heap.size + 1 + 1)) := fun w' hk u1 u2 u3 => ((hk.set (a := ⟨w.heap.size + 1 + 1, 0, none⟩) rfl _).set (a := ⟨w.heap.size + 1 + 1, 1, none⟩) rfl _).set (a := ⟨w.heap.size + 1 + 1, 2, none⟩) rfl _
  have q0 := blk_cell hr0 0 _ rfl
  have q1 := blk_cell hs0 0 _ rfl
  have q2 := blk_cell hs0 2 _ rfl
  have q3 := blk_cell hs0 4 _ rfl
  have HB1 : Hid (Below W.heap.size W (((W.alloc (.cells #[.int .i64 x] 3)).alloc (.cells #[.slice la n lc, .slice (some ⟨W.heap.size, 0, none⟩) 1 1] 29)).drew)) := hb1
  have HZ : Hid (W.heap[w.heap.size + 1 + 1]? = some (.cells #[.slice none 0 0, .string ⟨#[]⟩, .int .i64 0] 68 (0, 0))) := hz0
  have HB0 : Hid (Below w.heap.size w W) := hb0
  clear cc hl1 hl2 hb1 hr0 hs0 hz0 hb0 hx
  go_region_held3 (fun w' => w'.cell? ⟨w.heap.size, 0, none⟩ = some (.slice la n lc) ∧ w'.cell? ⟨w.heap.size + 1, 0, none⟩ = some (.int .i64 x) ∧ w'.cell? ⟨w.heap.size + 1, 2, none⟩ = some (.string tt) ∧ w'.cell? ⟨w.heap.size + 1, 4, none⟩ = some (.int .i64 a))
    (first | with_reducible exact ⟨q0, q1, q2, q3⟩ | with_reducible exact keepS.out _ KD.out | with_reducible exact keepS.out _ (KP.out _) | with_reducible exact keepS.out _ (KPD.out _) | with_reducible exact keepS.out _ (KPP.out _ _) | with_reducible exact keepS.out _ (KPPD.out _ _) | with_reducible exact keepS.out _ (Kept.of_below (after HB1.out hb3)) | with_reducible exact keepS.out _ (KS.out _ (Kept.of_below (after HB1.out hb3)) _ _ _))
    (first | (go_at_call 70; refine Calls.mono CC.out ?_; rintro e w3 ⟨⟨aC, cC, rfl, ho⟩, hb3⟩; have z3 := blk_below HZ.out (after HB1.out hb3); have o0 := blk_cell z3 0 _ rfl; have o1 := blk_cell z3 1 _ rfl; have o2 := blk_cell z3 2 _ rfl; have f0 := blk_free z3 0; have f1 := blk_free z3 1; have f2 := blk_free z3 2))
  go_wp2
  clear q0 q1 q2 q3 o0 o1 o2 f0 f1 f2
  have hBs : w.heap.size + 1 + 1 < (((W.alloc (.cells #[.int .i64 x] 3)).alloc (.cells #[.slice la n lc, .slice (some ⟨W.heap.size, 0, none⟩) 1 1] 29)).drew).heap.size := by
    have h1 := HB1.out.size
    have h2 := HSZ.out
    omega
  have rF := blk_set (blk_set (blk_set z3 0 (.slice aC (n + 1) cC)) 1 (.string tt)) 2 (.int .i64 a)
  have y0 := blk_cell rF 0 _ rfl
  have y1 := blk_cell rF 1 _ rfl
  have y2 := blk_cell rF 2 _ rfl
  refine bodyPost_ret (v := .agg #[.slice aC (n + 1) cC, .string tt, .int .i64 a]) (by simp [results, Try.results46, go_sem, y0, y1, y2]) rfl ⟨aC, cC, rfl, ?_, ?_⟩
  · exact own_base (own_set (own_set (own_set ho (by show w.heap.size + 1 + 1 < _; exact hBs) _) (by show w.heap.size + 1 + 1 < _; exact hBs) _) (by show w.heap.size + 1 + 1 < _; exact hBs) _) (by omega)
  · have hb := after HB0.out (after HB1.out hb3)
    exact ((hb.setCell (by show w.heap.size ≤ w.heap.size + 1 + 1; omega) _).setCell (by show w.heap.size ≤ w.heap.size + 1 + 1; omega) _).setCell (by show w.heap.size ≤ w.heap.size + 1 + 1; omega) _

set_option maxHeartbeats 800000 in
set_option maxRecDepth 100000 in
/-- findSailing: where the first sailing with the Id stands, and whether there is one. -/
theorem findSailing_any (ao : Option Addr) (N c : Nat) (S : Nat → Sail) (x : Int) (w : World) (hN : N ≤ 1048576) (hx : SailsAt w ao N S) :
    Calls Try.prog 44 #[.slice ao N c, .int .i64 x] w fun e w' => ((findIx S x N < N ∧ e = .returned (.tuple #[.int .i64 (findIx S x N), .bool true])) ∨ (findIx S x N = N ∧ e = .returned (.tuple #[.int .i64 0, .bool false]))) ∧ Below w.heap.size w w' := by
  go_enter Try.func44, Try.ntmps44
  go_wp2
  go_loopw [6, 7, 10] (fun _ _ i wr => ∃ k : Nat, k ≤ N ∧ i = .int .i64 k ∧ (∀ j, j < k → (S j).id ≠ x) ∧ Below w.heap.size w wr) (fun _ _ i _ => N - (intOf i).toNat)
  case atStart => exact ⟨0, Nat.zero_le _, rfl, fun j hj => by omega, Below.refl _ _⟩
  case round =>
    obtain ⟨k, hk, rfl, hall, hbel⟩ := hrel
    have HA : Hid (∀ j, j < k → (S j).id ≠ x) := hall
    clear hall
    by_cases hlt : k < N
    · obtain ⟨b, off, la, lc, ca, cc, rfl, h0, h1, h2, h3, h4, h5, h6, h7, _, _, _, _⟩ := hx k hlt
      have hb := World.block_lt_of_cell? w _ h1
      have c0 := (hbel.cell (p := ⟨b, off + k * 8, none⟩) hb).trans h0
      have c1 := (hbel.cell (p := ⟨b, off + k * 8 + 1, none⟩) hb).trans h1
      have c2 := (hbel.cell (p := ⟨b, off + k * 8 + 2, none⟩) hb).trans h2
      have c3 := (hbel.cell (p := ⟨b, off + k * 8 + 3, none⟩) hb).trans h3
      have c4 := (hbel.cell (p := ⟨b, off + k * 8 + 4, none⟩) hb).trans h4
      have c5 := (hbel.cell (p := ⟨b, off + k * 8 + 5, none⟩) hb).trans h5
      have c6 := (hbel.cell (p := ⟨b, off + k * 8 + 6, none⟩) hb).trans h6
      have c7 := (hbel.cell (p := ⟨b, off + k * 8 + 7, none⟩) hb).trans h7
      clear h0 h1 h2 h3 h4 h5 h6 h7
      by_cases he : (S k).id = x
      · have e1 : ((S k).id == x) = true := by simpa using he
        have HF : Hid (findIx S x N = k) := findIx_is hlt he HA.out
        clear he
        go_wp2
        exact bodyPost_ret (v := .tuple #[.int .i64 k, .bool true]) (by simp [results, Try.results44, go_sem]) rfl ⟨.inl ⟨by rw [HF.out]; exact hlt, by rw [HF.out]⟩, push hbel _⟩
      · have e1 : ((S k).id == x) = false := by simpa using he
        have HE : Hid ((S k).id ≠ x) := he
        clear he
        go_wp2
        go_roundw
        case rel => exact ⟨k + 1, by omega, by go_num, fun j hj => by
          by_cases e : j = k
          · subst e; exact HE.out
          · exact HA.out j (by omega), push hbel _⟩
        case measure => simp [intOf]; omega
    · obtain rfl : k = N := by omega
      have HF : Hid (findIx S x k = k) := findIx_none HA.out
      go_wp2
      exact bodyPost_ret (v := .tuple #[.int .i64 0, .bool false]) (by simp [results, Try.results44, go_sem]) rfl ⟨.inr ⟨HF.out, rfl⟩, hbel⟩

end Go.Proofs.Ytaalhmaacaahhah
