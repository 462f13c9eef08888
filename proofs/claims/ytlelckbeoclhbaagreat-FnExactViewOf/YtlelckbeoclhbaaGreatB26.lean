/-
  OWN TEXT: CloneI, RoomsI, KitCp, SeatsF.
-/
import Derived.Test.YtlelckbeoclhbaaGreatRows
import Derived.Deep.LoopGhost
import Derived.Lib.SliceRun
import Derived.Laws.CopyRow
import Derived.Test.YtlelckbeoclhbaaGreatB02
import Derived.Test.YtlelckbeoclhbaaGreatB25
import Derived.Test.YtlelckbeoclhbaaGreatB00
import Derived.Test.YtlelckbeoclhbaaGreatB23
import Derived.Test.YtlelckbeoclhbaaGreatB16
import Derived.Test.YtlelckbeoclhbaaGreatB07
set_option maxHeartbeats 12800000
set_option maxRecDepth 100000
namespace Go.Proofs.YtlelckbeoclhbaaGreat
open Go.RowKit
theorem ints_cellsF {w : World} {ao : Option Addr} {n : Nat} {F : Nat → Int} (h : IntsAt w ao n F) : ∀ ad, ao = some ad → ∀ j u, (intList F n)[j]? = some u → w.cell? (ad.add j) = some u := by
  intro ad e j u hu
  obtain ⟨hj, rfl⟩ := intList_get _ _ _ _ hu
  obtain ⟨b, off, e2, hc⟩ := h j hj
  rw [e] at e2
  cases e2
  rw [Addr.add_lit]
  exact hc
theorem cloneInts (ad : Addr) (n c : Nat) (F : Nat → Int) (w : World) (hn : n ≤ 1048576) (hx : IntsAt w (some ad) n F) :
    Calls Tryz.prog 66 #[.slice (some ad) n c] w fun e w' => (∃ v, e = .returned v ∧ w'.ownsRow w.heap.size 3 1 v n (intList F n)) ∧ Below w.heap.size w w' := by
  obtain ⟨j0, ji, jz0, jz1, jz2⟩ := info_parts Tryz.infoInt
  have hb0 : Below w.heap.size w (w.alloc (.cells #[] 3)) := push (Below.refl _ _) _
  have ho : (w.alloc (.cells #[] 3)).ownsRow w.heap.size 3 1 (.slice (some ⟨w.heap.size, 0, none⟩) 0 0) 0 [] := ⟨rfl, .inr ⟨w.heap.size, 0, #[], rfl, Nat.le_refl _, heap_alloc_new w _, Nat.le_refl _, Nat.zero_le _, rfl, rfl⟩⟩
  have HC : Hid (∀ ad', (some ad : Option Addr) = some ad' → ∀ j u, (intList F n)[j]? = some u → (w.alloc (.cells #[] 3)).cell? (ad'.add j) = some u) := ints_cellsF (hx.below hb0)
  have qT : ∀ (w : World) (a : Option Addr) (n c n' c' : Nat), (binOp .eql 31 (.slice a n c) (.slice none n' c')).run Tryz.prog w = .ok (.bool a.isNone) w := fun w a n c n' c' => Lib.run_eql_slice_nil w _ _ a n c n' c' Tryz.underlying31
  go_enter Tryz.func66, Tryz.ntmps66
  go_wp2_with (first | (at_builtin; refine wpList_append_any _ (by rfl) (.tmp 5) (.tmp 6) 31 (by rfl) w.heap.size 3 j0 (.int .i64 0) 1 8 Tryz.underlying31 ji jz0 jz1 jz2 rfl (by decide) _ 0 [] (by rfl) ho (some ad) n c (intList F n) (by rfl) (fun h => (by cases h)) (by rw [intList_length, Nat.mul_one]) HC.out (intList_one _ _) (by unfold maxLen; omega) (by omega) (by simp) ?_; intro v' w3 ho3 hg3))
  go_ret
  rw [Nat.zero_add, List.nil_append] at ho3
  exact ⟨⟨_, rfl, ho3⟩, hb0.grown hg3 (by simp) (fun j hj => (ho.lt j hj).1)⟩
end Go.Proofs.YtlelckbeoclhbaaGreat

namespace Go.Proofs.YtlelckbeoclhbaaGreat
open Go.RowKit
theorem six_ints {w : World} {f t m : Nat} {F G : Nat → Int} (h : w.heap[f]? = some (.cells #[.int .i64 (F 0), .int .i64 (F 1), .int .i64 (F 2), .int .i64 (F 3), .int .i64 (F 4), .int .i64 (F 5)] t (0, 0))) (hm : m ≤ 6) (hF : ∀ k, k < m → F k = G k) : IntsAt w (some ⟨f, 0, none⟩) m G := by
  intro k hk
  refine ⟨f, 0, rfl, ?_⟩
  rw [Nat.zero_add, ← hF k hk]
  have : k = 0 ∨ k = 1 ∨ k = 2 ∨ k = 3 ∨ k = 4 ∨ k = 5 := by omega
  rcases this with rfl | rfl | rfl | rfl | rfl | rfl
  · exact blk_cell h 0 _ rfl
  · exact blk_cell h 1 _ rfl
  · exact blk_cell h 2 _ rfl
  · exact blk_cell h 3 _ rfl
  · exact blk_cell h 4 _ rfl
  · exact blk_cell h 5 _ rfl
theorem implRooms_any (ao bo : Option Addr) (m mc n c : Nat) (p : Pairs) (S : Nat → Room) (w : World) (hl : p.n = m) (hm : m ≤ 1048576) (hn : n ≤ 1048576) (hc : n ≤ c) (hx : PairsAt w ao p) (hz : RoomsAt w bo n S) :
    Calls Tryz.prog 108 #[.slice ao m mc, .slice bo n c] w fun e w' => SaysIf (RoomsS p n S) e ∧ Below w.heap.size w w' := by
  have HX : Hid (PairsAt w ao p) := hx
  have HZ : Hid (RoomsAt w bo n S) := hz
  have HL : Hid (p.n = m) := hl
  clear hx hz hl
  go_enter Tryz.func108, Tryz.ntmps108
  go_wp2_with fail
  refine (freeInCabins_any ao bo m mc n c p S _ HL.out hm hn hc HX.out HZ.out).mono ?_
  rintro e w1 ⟨hans, hb1⟩
  unfold FreeRAns six at hans
  rcases hans with ⟨hd, rfl⟩ | ⟨hd, rfl⟩
  · have HD : Hid (RoomsS p n S) := rooms_iff.1 hd
    clear hd
    go_wp2
    go_ret
    exact ⟨says_yes HD.out, (by first | exact hb1 | exact push hb1 _)⟩
  · have HD : Hid (¬ RoomsS p n S) := fun h => hd (rooms_iff.2 h)
    clear hd
    go_wp2
    go_ret
    exact ⟨says_no HD.out, (by first | exact hb1 | exact push hb1 _)⟩
theorem implBerths_any (ao bo : Option Addr) (m mc n c : Nat) (p : Pairs) (S : Nat → Room) (w : World) (hl : p.n = m) (hm : m ≤ 1048576) (hn : n ≤ 1048576) (hc : n ≤ c) (hx : PairsAt w ao p) (hz : RoomsAt w bo n S) :
    Calls Tryz.prog 122 #[.slice ao m mc, .slice bo n c] w fun e w' => BerthsRes w' w.heap.size 3 p n S e ∧ Below w.heap.size w w' := by
  have HX : Hid (PairsAt w ao p) := hx
  have HZ : Hid (RoomsAt w bo n S) := hz
  have HL : Hid (p.n = m) := hl
  clear hx hz hl
  go_enter Tryz.func122, Tryz.ntmps122
  go_wp2_with fail
  refine (freeInCabins_any ao bo m mc n c p S _ HL.out hm hn hc HX.out HZ.out).mono ?_
  rintro e w1 ⟨hans, hb1⟩
  unfold FreeRAns six at hans
  rcases hans with ⟨hd, rfl⟩ | ⟨hd, rfl⟩
  · have HD : Hid (RoomsS p n S) := rooms_iff.1 hd
    have hm6 : m ≤ 6 := by rw [← HL.out]; exact hd.1.1
    clear hd
    have i1 : (0 : Int) ≤ (m : Int) := by omega
    have i2 : (m : Int) ≤ 6 := by omega
    have hb2 := push hb1 (.cells #[.int .i64 (freeR p S n 0), .int .i64 (freeR p S n 1), .int .i64 (freeR p S n 2), .int .i64 (freeR p S n 3), .int .i64 (freeR p S n 4), .int .i64 (freeR p S n 5)] 208)
    have HI : Hid (IntsAt (w1.alloc (.cells #[.int .i64 (freeR p S n 0), .int .i64 (freeR p S n 1), .int .i64 (freeR p S n 2), .int .i64 (freeR p S n 3), .int .i64 (freeR p S n 4), .int .i64 (freeR p S n 5)] 208)) (some ⟨w1.heap.size, 0, none⟩) m (leftR p S n)) := six_ints (F := freeR p S n) (heap_alloc_new w1 _) hm6 (fun k hk => if_pos (by rw [HL.out]; exact hk))
    go_wp2_with (first | (go_at_call 66; refine (cloneInts _ m _ (leftR p S n) _ hm HI.out).mono ?_; rintro e w2 ⟨⟨v, rfl, ho⟩, hb3⟩))
    exact bodyPost_ret (v := .tuple #[v, .bool true]) (by simp [results, Tryz.results122, go_sem]) rfl ⟨berthsRes_yes HD.out HL.out (own_base ho hb2.size), after hb2 hb3⟩
  · have HD : Hid (¬ RoomsS p n S) := fun h => hd (rooms_iff.2 h)
    clear hd
    go_wp2
    exact bodyPost_ret (v := .tuple #[.slice none 0 0, .bool false]) (by simp [results, Tryz.results122, go_sem]) rfl ⟨berthsRes_no HD.out, push hb1 _⟩
end Go.Proofs.YtlelckbeoclhbaaGreat

namespace Go.Proofs.YtlelckbeoclhbaaGreat
open Go.RowKit
theorem run_copy_k {P : Program} (w : World) (dT sT ty elem : TypeId) (g dLen dCap : Nat) (sp : Option Addr) (sLen sCap : Nat) (cur : Array Value) (t : TypeId) (cs : List Value) (sz : Nat)
    (hu : P.underlying dT = some (.slice elem)) (hs : (P.info? elem).map (·.size) = some sz)
    (hg : w.heap[g]? = some (.cells cur t (0, 0))) (hle : sLen ≤ dLen) (hn : cs.length = sLen * sz) (hnil : sp = none → sLen = 0 ∧ sCap = 0)
    (hsrc : ∀ a, sp = some a → ∀ j v, cs[j]? = some v → w.cell? (a.add j) = some v) (hfit : cs.length ≤ cur.size) (h1 : ∀ v ∈ cs, v.oneCell' = true) :
    (Builtin.copy_ #[dT, sT] ty #[.slice (some ⟨g, 0, none⟩) dLen dCap, .slice sp sLen sCap]).run P w =
      .ok (goInt sLen) (w.setRow g (cs ++ cur.toList.drop cs.length).toArray) := by
  cases sp with
  | none =>
    obtain ⟨rfl, rfl⟩ := hnil rfl
    have e : cs = [] := List.eq_nil_of_length_eq_zero (by rw [hn]; omega)
    subst e
    rw [run_copy_nil (P := P) w dT sT ty elem ⟨g, 0, none⟩ dLen dCap hu (by rw [hs]; rfl)]
    simp only [List.nil_append, List.length_nil, List.drop_zero, Array.toArray_toList]
    rw [setRow_self w g cur t (0, 0) hg]
    rfl
  | some a =>
    have hl := run_loadCells_list (P := P) w a cs (hsrc a rfl)
    have hst := run_storeCells_at P g 0 t cs 0 cur w hg (by simpa using hfit) h1
    have hmin : Nat.min sLen dLen = sLen := Nat.min_eq_left hle
    cases hq : P.info? elem with
    | none => simp [hq] at hs
    | some i =>
      have hi : i.size = sz := by simpa [hq] using hs
      rw [hn] at hl
      simp [Builtin.copy_, run_underlying hu, Builtin.lenOf, Builtin.firstCells, sizeOf, typeInfo, hq, hi, hmin, hl, hst]
theorem copy_k {P : Program} (w : World) (dT sT elem : TypeId) (g dLen dCap : Nat) (sp : Option Addr) (sLen sCap : Nat) (cur : Array Value) (t : TypeId) (cs : List Value) (sz : Nat)
    (hu : P.underlying dT = some (.slice elem)) (hs : (P.info? elem).map (·.size) = some sz)
    (hg : w.heap[g]? = some (.cells cur t (0, 0))) (hle : sLen ≤ dLen) (hn : cs.length = sLen * sz) (hnil : sp = none → sLen = 0 ∧ sCap = 0)
    (hsrc : ∀ a, sp = some a → ∀ j v, cs[j]? = some v → w.cell? (a.add j) = some v) (hfit : cs.length ≤ cur.size) (h1 : ∀ v ∈ cs, v.oneCell' = true) :
    ∃ w', (∀ ty, (Builtin.copy_ #[dT, sT] ty #[.slice (some ⟨g, 0, none⟩) dLen dCap, .slice sp sLen sCap]).run P w = .ok (goInt sLen) w') ∧
      w'.heap[g]? = some (.cells (cs ++ cur.toList.drop cs.length).toArray t (0, 0)) ∧ Below g w w' :=
  ⟨_, fun ty => run_copy_k (P := P) w dT sT ty elem g dLen dCap sp sLen sCap cur t cs sz hu hs hg hle hn hnil hsrc hfit h1, setRow_heap w g _ _ t _ hg,
    ⟨rfl, rfl, rfl, by simp [World.setRow], fun k hk => setRow_other w g k _ (by omega)⟩⟩
theorem own_row {w : World} {base e size g n : Nat} {xs : List Value} (h : w.ownsRow base e size (.slice (some ⟨g, 0, none⟩) n n) n xs) : ∃ cur : Array Value, w.heap[g]? = some (.cells cur e (0, 0)) ∧ cur.size = n * size := by
  obtain ⟨_, h | ⟨g', cap, cur, e1, _, hh, _, _, hz, _⟩⟩ := h
  · cases h.1
  · simp only [Value.slice.injEq, Option.some.injEq, Addr.mk.injEq] at e1
    obtain ⟨⟨rfl, _, _⟩, _, rfl⟩ := e1
    exact ⟨cur, hh, hz⟩
theorem row_of_blk {w : World} {g t N : Nat} {xs : List Value} (h : w.heap[g]? = some (.cells xs.toArray t (0, 0))) (hN : xs.length = N) : w.rowIs g t N (fun j => xs.getD j (.bool false)) := by
  refine ⟨_, h, by simpa using hN, fun i hi => ?_⟩
  have : i < xs.length := by omega
  simp [List.getElem?_eq_getElem this]
end Go.Proofs.YtlelckbeoclhbaaGreat

namespace Go.Proofs.YtlelckbeoclhbaaGreat
open Go.RowKit
theorem sits_mono (S : Nat → Seat) (i n : Nat) (hin : i ≤ n) (h : ∀ j, j < n → In (S j).many 1 20) : sits S i ≤ sits S n := by
  induction n with
  | zero => rw [show i = 0 by omega]; exact Int.le_refl _
  | succ n ih =>
    by_cases e : i = n + 1
    · rw [e]; exact Int.le_refl _
    · have := ih (by omega) (fun j hj => h j (by omega))
      have hn := h n (by omega)
      unfold In at hn
      have h3 : sits S (n + 1) = sits S n + (S n).many := rfl
      omega
theorem seatsWith_lt {S : Nat → Seat} {n : Nat} {x many : Int} {j : Nat} (h : j < n) : seatsWith S n x many j = S j := by unfold seatsWith seatCat; rw [if_pos h]
theorem sits_with (S : Nat → Seat) (n : Nat) (x many : Int) (i : Nat) (h : i ≤ n) : sits (seatsWith S n x many) i = sits S i := by
  induction i with
  | zero => rfl
  | succ i ih =>
    have e := ih (by omega)
    show sits (seatsWith S n x many) i + (seatsWith S n x many i).many = sits S i + (S i).many
    rw [e, seatsWith_lt (by omega)]
theorem seatsOk_less {most : Int} {n : Nat} {S : Nat → Seat} {x many : Int} (h : SeatsOk most (n + 1) (seatsWith S n x many)) : SeatsOk most n S := by
  obtain ⟨h0, h1, h2, h3⟩ := h
  refine ⟨h0, by omega, fun i hi => ?_, ?_⟩
  · have := h2 i (by omega)
    rw [seatsWith_lt hi] at this
    refine ⟨this.1, fun ⟨j, hj, e⟩ => this.2.1 ⟨j, hj, ?_⟩, this.2.2⟩
    unfold whoT at e ⊢
    rw [seatsWith_lt (by omega)]; exact e
  · have := sits_mono (seatsWith S n x many) n (n + 1) (by omega) (fun j hj => (h2 j hj).2.2)
    rw [sits_with S n x many n (Nat.le_refl _)] at this
    omega
def SeatsAns (most : Int) (n : Nat) (S : Nat → Seat) (e : Ending) : Prop :=
  (SeatsOk most n S ∧ e = .returned (.tuple #[.int .i64 (most - sits S n), .bool true])) ∨ (¬ SeatsOk most n S ∧ e = .returned (.tuple #[.int .i64 0, .bool false]))
theorem freeSeats_any (most : Int) (bo : Option Addr) (n c : Nat) (S : Nat → Seat) (w : World) (hn : n ≤ 2097152) (hc : n ≤ c) (hz : SeatsAt w bo n S) :
    Calls Tryz.prog 123 #[.int .i64 most, .slice bo n c] w fun e w' => SeatsAns most n S e ∧ Below w.heap.size w w' := by
  have HZ : Hid (SeatsAt w bo n S) := hz
  clear hz
  by_cases g0 : In most 0 500
  · have e0 : decide (In most 0 500) = true := decide_eq_true g0
    have H0 : Hid (In most 0 500) := g0
    clear g0
    by_cases h60 : n ≤ 60
    · have d0 : decide (60 < n) = false := by simp; omega
      go_enter Tryz.func123, Tryz.ntmps123
      go_wp2_with (first | (go_at_call 143; refine (within_is _ _ _ _).mono ?_; rintro e w' ⟨rfl, hw'⟩; have hw' := hw'.symm; subst hw'))
      go_loopw [6, 7, 8, 20] (fun v _ _ i wr => ∃ k : Nat, k ≤ n ∧ i = .int .i64 k ∧ v = .int .i64 (most - sits S k) ∧ (∀ j, j < k → In (S j).who 1 9999 ∧ ¬ Has (whoT S) j (S j).who ∧ In (S j).many 1 20) ∧ sits S k ≤ most ∧ Below w.heap.size w wr) (fun _ _ _ i _ => n - (intOf i).toNat)
      case atStart => exact ⟨0, Nat.zero_le _, rfl, by simp [sits], fun j hj => by omega, H0.out.1, Below.refl _ _⟩
      case round =>
        obtain ⟨i, hi, rfl, rfl, hall, hsum, hbel⟩ := hrel
        have HA : Hid (∀ j, j < i → In (S j).who 1 9999 ∧ ¬ Has (whoT S) j (S j).who ∧ In (S j).many 1 20) := hall
        have HS : Hid (sits S i ≤ most) := hsum
        clear hall hsum e0 d0
        by_cases hlt : i < n
        · obtain ⟨b, off, rfl, h0, h1⟩ := HZ.out i hlt
          have hb := World.block_lt_of_cell? w _ h0
          have c0 := (hbel.cell (p := ⟨b, off + i * 2, none⟩) hb).trans h0
          have c1 := (hbel.cell (p := ⟨b, off + i * 2 + 1, none⟩) hb).trans h1
          have hbox := heap_alloc_new wr (.cells #[.int .i64 (S i).who, .int .i64 (S i).many] 126)
          have hbx := push hbel (.cells #[.int .i64 (S i).who, .int .i64 (S i).many] 126)
          clear h0 h1
          go_upto_region 7 with fail
          generalize hW : wr.alloc (.cells #[.int .i64 (S i).who, .int .i64 (S i).many] 126) = W at hbox hbx ⊢
          clear hW
          have hsW : wr.heap.size < W.heap.size := blk_lt hbox
          have z0 : ∀ g : Grown W, g.val.cell? ⟨wr.heap.size, 0, none⟩ = some (.int .i64 (S i).who) := fun g => (g.bel.cell hsW).trans (blk_cell hbox 0 _ rfl)
          have z1 : ∀ g : Grown W, g.val.cell? ⟨wr.heap.size, 1, none⟩ = some (.int .i64 (S i).many) := fun g => (g.bel.cell hsW).trans (blk_cell hbox 1 _ rfl)
          have i1 : (0 : Int) ≤ (i : Int) := by omega
          have i2 : (i : Int) ≤ (c : Int) := by omega
          clear c0 c1 hbox hbel
          by_cases g1 : In (S i).who 1 9999
          · have e1 : decide (In (S i).who 1 9999) = true := decide_eq_true g1
            have H1 : Hid (In (S i).who 1 9999) := g1
            clear g1
            by_cases g2 : Has (whoT S) i (S i).who
            · have e2 : decide (0 ≤ ixAns (whoT S) (S i).who i) = true := decide_eq_true ((ixAns_has _ _ _).2 g2)
              have H2 : Hid (Has (whoT S) i (S i).who) := g2
              clear g2
              refine wp_region_grow (by kernel_rfl) (by kernel_rfl) ?_
              repeat (first | go_big_quiet_skip | (go_big_quiet_want; go_big_quiet_op; first | go_big_quiet_on | (apply Exists.intro; refine ⟨fun g => ?_, ?_⟩; (focus (first | (go_at_call 146; refine grown_call (v := .bool true) ((isBy_is _ _).mono ?_); rintro e w4 ⟨rfl, rfl⟩; exact ⟨by rw [e1], Below.refl _ _⟩) | (go_at_call 154; refine grown_call (v := .int .i64 (ixAns (whoT S) (S i).who i)) ((seatOf_any _ i c S (S i).who _ (by omega) ((HZ.out.upto (by omega)).below (after hbx g.bel))).mono ?_); rintro e w4 ⟨rfl, hbb⟩; exact ⟨rfl, hbb⟩))); go_big_quiet_on)))
              refine wpQuiet_nil ?_
              rintro _ ⟨g, rfl⟩
              go_wp2
              exact bodyPost_ret (v := .tuple #[.int .i64 0, .bool false]) (by simp [results, Tryz.results123, go_sem]) rfl ⟨.inr ⟨fun h => (h.2.2.1 i hlt).2.1 H2.out, rfl⟩, after hbx g.bel⟩
            · have e2 : decide (0 ≤ ixAns (whoT S) (S i).who i) = false := decide_eq_false (fun h => g2 ((ixAns_has _ _ _).1 h))
              have H2 : Hid (¬ Has (whoT S) i (S i).who) := g2
              clear g2
              by_cases g3 : In (S i).many 1 (if most - sits S i < 20 then most - sits S i else 20)
              · have e3 : decide (In (S i).many 1 (if most - sits S i < 20 then most - sits S i else 20)) = true := decide_eq_true g3
                have H3 : Hid (In (S i).many 1 20 ∧ sits S (i + 1) ≤ most) := by
                  have h3 : sits S (i + 1) = sits S i + (S i).many := rfl
                  unfold In at g3 ⊢
                  show (_ ∧ _) ∧ _
                  rw [h3]
                  split at g3 <;> omega
                clear g3
                have hwr : IntKind.i64.wrap (most - sits S i - (S i).many) = most - sits S (i + 1) := by
                  have h1 := sits_bounds S i (fun j hj => (HA.out j hj).2.2)
                  have h2 := H3.out.1
                  have h0 := H0.out
                  unfold In at h2 h0
                  have h3 : sits S (i + 1) = sits S i + (S i).many := rfl
                  rw [h3, IntKind.wrap_i64]; omega
                refine wp_region_grow (by kernel_rfl) (by kernel_rfl) ?_
                repeat (first | go_big_quiet_skip | (go_big_quiet_want; go_big_quiet_op; first | go_big_quiet_on | (apply Exists.intro; refine ⟨fun g => ?_, ?_⟩; (focus (first | (go_at_call 146; refine grown_call (v := .bool true) ((isBy_is _ _).mono ?_); rintro e w4 ⟨rfl, rfl⟩; exact ⟨by rw [e1], Below.refl _ _⟩) | (go_at_call 154; refine grown_call (v := .int .i64 (ixAns (whoT S) (S i).who i)) ((seatOf_any _ i c S (S i).who _ (by omega) ((HZ.out.upto (by omega)).below (after hbx g.bel))).mono ?_); rintro e w4 ⟨rfl, hbb⟩; exact ⟨rfl, hbb⟩) | (go_at_call 143; refine grown_call (v := .bool true) ((within_is _ _ _ _).mono ?_); rintro e w4 ⟨rfl, rfl⟩; exact ⟨by rw [e3], Below.refl _ _⟩))); go_big_quiet_on)))
                refine wpQuiet_nil ?_
                rintro _ ⟨g, rfl⟩
                have v1 := z1 g
                clear e3
                generalize (if most - sits S i < 20 then most - sits S i else 20) = mn
                go_wp2
                have HAN : Hid (∀ j, j < i + 1 → In (S j).who 1 9999 ∧ ¬ Has (whoT S) j (S j).who ∧ In (S j).many 1 20) := fun j hj => by
                  by_cases e : j = i
                  · subst e; exact ⟨H1.out, H2.out, H3.out.1⟩
                  · exact HA.out j (by omega)
                go_roundw
                case rel => exact ⟨i + 1, by omega, by go_num, rfl, HAN.out, H3.out.2, after hbx g.bel⟩
                case measure => simp [intOf]; omega
              · have e3 : decide (In (S i).many 1 (if most - sits S i < 20 then most - sits S i else 20)) = false := decide_eq_false g3
                have H3 : Hid (¬ SeatsOk most n S) := fun h => by
                  have h1 := (h.2.2.1 i hlt).2.2
                  have h2 := sits_mono S (i + 1) n (by omega) (fun j hj => (h.2.2.1 j hj).2.2)
                  have h4 := h.2.2.2
                  have h3 : sits S (i + 1) = sits S i + (S i).many := rfl
                  unfold In at g3 h1
                  split at g3 <;> omega
                clear g3
                refine wp_region_grow (by kernel_rfl) (by kernel_rfl) ?_
                repeat (first | go_big_quiet_skip | (go_big_quiet_want; go_big_quiet_op; first | go_big_quiet_on | (apply Exists.intro; refine ⟨fun g => ?_, ?_⟩; (focus (first | (go_at_call 146; refine grown_call (v := .bool true) ((isBy_is _ _).mono ?_); rintro e w4 ⟨rfl, rfl⟩; exact ⟨by rw [e1], Below.refl _ _⟩) | (go_at_call 154; refine grown_call (v := .int .i64 (ixAns (whoT S) (S i).who i)) ((seatOf_any _ i c S (S i).who _ (by omega) ((HZ.out.upto (by omega)).below (after hbx g.bel))).mono ?_); rintro e w4 ⟨rfl, hbb⟩; exact ⟨rfl, hbb⟩) | (go_at_call 143; refine grown_call (v := .bool false) ((within_is _ _ _ _).mono ?_); rintro e w4 ⟨rfl, rfl⟩; exact ⟨by rw [e3], Below.refl _ _⟩))); go_big_quiet_on)))
                refine wpQuiet_nil ?_
                rintro _ ⟨g, rfl⟩
                clear e3
                generalize (if most - sits S i < 20 then most - sits S i else 20) = mn
                go_wp2
                exact bodyPost_ret (v := .tuple #[.int .i64 0, .bool false]) (by simp [results, Tryz.results123, go_sem]) rfl ⟨.inr ⟨H3.out, rfl⟩, after hbx g.bel⟩
          · have e1 : decide (In (S i).who 1 9999) = false := decide_eq_false g1
            have H1 : Hid (¬ In (S i).who 1 9999) := g1
            clear g1
            refine wp_region_grow (by kernel_rfl) (by kernel_rfl) ?_
            repeat (first | go_big_quiet_skip | (go_big_quiet_want; go_big_quiet_op; first | go_big_quiet_on | (apply Exists.intro; refine ⟨fun g => ?_, ?_⟩; (focus (first | (go_at_call 146; refine grown_call (v := .bool false) ((isBy_is _ _).mono ?_); rintro e w4 ⟨rfl, rfl⟩; exact ⟨by rw [e1], Below.refl _ _⟩))); go_big_quiet_on)))
            refine wpQuiet_nil ?_
            rintro _ ⟨g, rfl⟩
            go_wp2
            exact bodyPost_ret (v := .tuple #[.int .i64 0, .bool false]) (by simp [results, Tryz.results123, go_sem]) rfl ⟨.inr ⟨fun h => H1.out (h.2.2.1 i hlt).1, rfl⟩, after hbx g.bel⟩
        · obtain rfl : i = n := by omega
          go_wp2
          exact bodyPost_ret (v := .tuple #[.int .i64 (most - sits S i), .bool true]) (by simp [results, Tryz.results123, go_sem]) rfl ⟨.inl ⟨⟨H0.out, h60, HA.out, HS.out⟩, rfl⟩, hbel⟩
    · have d0 : decide (60 < n) = true := by simp; omega
      go_enter Tryz.func123, Tryz.ntmps123
      go_wp2_with (first | (go_at_call 143; refine (within_is _ _ _ _).mono ?_; rintro e w' ⟨rfl, hw'⟩; have hw' := hw'.symm; subst hw'))
      exact bodyPost_ret (v := .tuple #[.int .i64 0, .bool false]) (by simp [results, Tryz.results123, go_sem]) rfl ⟨.inr ⟨fun h => h60 h.2.1, rfl⟩, Below.refl _ _⟩
  · have e0 : decide (In most 0 500) = false := decide_eq_false g0
    have H0 : Hid (¬ In most 0 500) := g0
    clear g0
    go_enter Tryz.func123, Tryz.ntmps123
    go_wp2_with (first | (go_at_call 143; refine (within_is _ _ _ _).mono ?_; rintro e w' ⟨rfl, hw'⟩; have hw' := hw'.symm; subst hw'))
    exact bodyPost_ret (v := .tuple #[.int .i64 0, .bool false]) (by simp [results, Tryz.results123, go_sem]) rfl ⟨.inr ⟨fun h => H0.out h.1, rfl⟩, Below.refl _ _⟩
theorem implSeats_any (most : Int) (bo : Option Addr) (n c : Nat) (S : Nat → Seat) (w : World) (hn : n ≤ 2097152) (hc : n ≤ c) (hz : SeatsAt w bo n S) :
    Calls Tryz.prog 109 #[.int .i64 most, .slice bo n c] w fun e w' => SaysIf (SeatsOk most n S) e ∧ Below w.heap.size w w' := by
  have HZ : Hid (SeatsAt w bo n S) := hz
  clear hz
  go_enter Tryz.func109, Tryz.ntmps109
  go_wp2_with fail
  refine (freeSeats_any most bo n c S _ hn hc HZ.out).mono ?_
  rintro e w1 ⟨hans, hb1⟩
  rcases hans with ⟨hok, rfl⟩ | ⟨hno, rfl⟩
  · have HOK : Hid (SeatsOk most n S) := hok
    clear hok
    go_wp2
    go_ret
    exact ⟨says_yes HOK.out, hb1⟩
  · have HNO : Hid (¬ SeatsOk most n S) := hno
    clear hno
    go_wp2
    go_ret
    exact ⟨says_no HNO.out, hb1⟩
end Go.Proofs.YtlelckbeoclhbaaGreat
