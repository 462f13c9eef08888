/-
  OWN TEXT: KitCp, SeatsF, FreeP0, PlainVw.
-/
import Derived.Laws.CopyRow
import Derived.Test.YtlelckbeoclhbaaGreatRows
import Derived.Test.YtlelckbeoclhbaaGreatB00
import Derived.Test.YtlelckbeoclhbaaGreatB22
import Derived.Test.YtlelckbeoclhbaaGreatB16
import Derived.Test.YtlelckbeoclhbaaGreatB02
import Derived.Test.YtlelckbeoclhbaaGreatB07
import Derived.Test.YtlelckbeoclhbaaGreatB11
import Derived.Test.YtlelckbeoclhbaaGreatB08
import Derived.Test.YtlelckbeoclhbaaGreatB12
set_option maxHeartbeats 12800000
set_option maxRecDepth 100000
namespace Go.Proofs.YtlelckbeoclhbaaGreat
open Go.RowKit
theorem run_copy_k {P : Program} (w : World) (dT sT ty elem : TypeId) (g dLen dCap : Nat) (sp : Option Addr) (sLen sCap : Nat) (cur : Array Value) (t : TypeId) (cs : List Value) (sz : Nat)
    (hu : P.underlying dT = some (.slice elem)) (hs : (P.info? elem).map (·.size) = some sz)
    (hg : w.heap[g]? = some (.cells cur t (0, 0))) (hle : sLen ≤ dLen) (hn : cs.length = sLen * sz) (hnil : sp = none → sLen = 0 ∧ sCap = 0)
    (hsrc : ∀ a, sp = some a → ∀ j v, cs[j]? = some v → w.cell? (a.add j) = some v) (hfit : cs.length ≤ cur.size) (h1 : ∀ v ∈ cs, v.oneCell' = true) :
    (Builtin.copy_ #[dT, sT] ty #[.slice (some ⟨g, 0, none⟩) dLen dCap, .slice sp sLen sCap]).run P w =
      .ok (goInt sLen) (w.setRow g (cs ++ cur.toList.drop cs.length).toArray) := by
  cases sp with
  | none =>
    obtain ⟨rfl, rfl⟩ := hnil rfl
    have e : cs = [] := List.eq_nil_of_length_eq_zero (by rw [hn]; omega)
    subst e
    rw [run_copy_nil (P := P) w dT sT ty elem ⟨g, 0, none⟩ dLen dCap hu (by rw [hs]; rfl)]
    simp only [List.nil_append, List.length_nil, List.drop_zero, Array.toArray_toList]
    rw [setRow_self w g cur t (0, 0) hg]
    rfl
  | some a =>
    have hl := run_loadCells_list (P := P) w a cs (hsrc a rfl)
    have hst := run_storeCells_at P g 0 t cs 0 cur w hg (by simpa using hfit) h1
    have hmin : Nat.min sLen dLen = sLen := Nat.min_eq_left hle
    cases hq : P.info? elem with
    | none => simp [hq] at hs
    | some i =>
      have hi : i.size = sz := by simpa [hq] using hs
      rw [hn] at hl
      simp [Builtin.copy_, run_underlying hu, Builtin.lenOf, Builtin.firstCells, sizeOf, typeInfo, hq, hi, hmin, hl, hst]
theorem copy_k {P : Program} (w : World) (dT sT elem : TypeId) (g dLen dCap : Nat) (sp : Option Addr) (sLen sCap : Nat) (cur : Array Value) (t : TypeId) (cs : List Value) (sz : Nat)
    (hu : P.underlying dT = some (.slice elem)) (hs : (P.info? elem).map (·.size) = some sz)
    (hg : w.heap[g]? = some (.cells cur t (0, 0))) (hle : sLen ≤ dLen) (hn : cs.length = sLen * sz) (hnil : sp = none → sLen = 0 ∧ sCap = 0)
    (hsrc : ∀ a, sp = some a → ∀ j v, cs[j]? = some v → w.cell? (a.add j) = some v) (hfit : cs.length ≤ cur.size) (h1 : ∀ v ∈ cs, v.oneCell' = true) :
    ∃ w', (∀ ty, (Builtin.copy_ #[dT, sT] ty #[.slice (some ⟨g, 0, none⟩) dLen dCap, .slice sp sLen sCap]).run P w = .ok (goInt sLen) w') ∧
      w'.heap[g]? = some (.cells (cs ++ cur.toList.drop cs.length).toArray t (0, 0)) ∧ Below g w w' :=
  ⟨_, fun ty => run_copy_k (P := P) w dT sT ty elem g dLen dCap sp sLen sCap cur t cs sz hu hs hg hle hn hnil hsrc hfit h1, setRow_heap w g _ _ t _ hg,
    ⟨rfl, rfl, rfl, by simp [World.setRow], fun k hk => setRow_other w g k _ (by omega)⟩⟩
theorem own_row {w : World} {base e size g n : Nat} {xs : List Value} (h : w.ownsRow base e size (.slice (some ⟨g, 0, none⟩) n n) n xs) : ∃ cur : Array Value, w.heap[g]? = some (.cells cur e (0, 0)) ∧ cur.size = n * size := by
  obtain ⟨_, h | ⟨g', cap, cur, e1, _, hh, _, _, hz, _⟩⟩ := h
  · cases h.1
  · simp only [Value.slice.injEq, Option.some.injEq, Addr.mk.injEq] at e1
    obtain ⟨⟨rfl, _, _⟩, _, rfl⟩ := e1
    exact ⟨cur, hh, hz⟩
theorem row_of_blk {w : World} {g t N : Nat} {xs : List Value} (h : w.heap[g]? = some (.cells xs.toArray t (0, 0))) (hN : xs.length = N) : w.rowIs g t N (fun j => xs.getD j (.bool false)) := by
  refine ⟨_, h, by simpa using hN, fun i hi => ?_⟩
  have : i < xs.length := by omega
  simp [List.getElem?_eq_getElem this]
end Go.Proofs.YtlelckbeoclhbaaGreat

namespace Go.Proofs.YtlelckbeoclhbaaGreat
open Go.RowKit
theorem sits_mono (S : Nat → Seat) (i n : Nat) (hin : i ≤ n) (h : ∀ j, j < n → In (S j).many 1 20) : sits S i ≤ sits S n := by
  induction n with
  | zero => rw [show i = 0 by omega]; exact Int.le_refl _
  | succ n ih =>
    by_cases e : i = n + 1
    · rw [e]; exact Int.le_refl _
    · have := ih (by omega) (fun j hj => h j (by omega))
      have hn := h n (by omega)
      unfold In at hn
      have h3 : sits S (n + 1) = sits S n + (S n).many := rfl
      omega
theorem seatsWith_lt {S : Nat → Seat} {n : Nat} {x many : Int} {j : Nat} (h : j < n) : seatsWith S n x many j = S j := by unfold seatsWith seatCat; rw [if_pos h]
theorem sits_with (S : Nat → Seat) (n : Nat) (x many : Int) (i : Nat) (h : i ≤ n) : sits (seatsWith S n x many) i = sits S i := by
  induction i with
  | zero => rfl
  | succ i ih =>
    have e := ih (by omega)
    show sits (seatsWith S n x many) i + (seatsWith S n x many i).many = sits S i + (S i).many
    rw [e, seatsWith_lt (by omega)]
theorem seatsOk_less {most : Int} {n : Nat} {S : Nat → Seat} {x many : Int} (h : SeatsOk most (n + 1) (seatsWith S n x many)) : SeatsOk most n S := by
  obtain ⟨h0, h1, h2, h3⟩ := h
  refine ⟨h0, by omega, fun i hi => ?_, ?_⟩
  · have := h2 i (by omega)
    rw [seatsWith_lt hi] at this
    refine ⟨this.1, fun ⟨j, hj, e⟩ => this.2.1 ⟨j, hj, ?_⟩, this.2.2⟩
    unfold whoT at e ⊢
    rw [seatsWith_lt (by omega)]; exact e
  · have := sits_mono (seatsWith S n x many) n (n + 1) (by omega) (fun j hj => (h2 j hj).2.2)
    rw [sits_with S n x many n (Nat.le_refl _)] at this
    omega
def SeatsAns (most : Int) (n : Nat) (S : Nat → Seat) (e : Ending) : Prop :=
  (SeatsOk most n S ∧ e = .returned (.tuple #[.int .i64 (most - sits S n), .bool true])) ∨ (¬ SeatsOk most n S ∧ e = .returned (.tuple #[.int .i64 0, .bool false]))
theorem freeSeats_any (most : Int) (bo : Option Addr) (n c : Nat) (S : Nat → Seat) (w : World) (hn : n ≤ 2097152) (hc : n ≤ c) (hz : SeatsAt w bo n S) :
    Calls Tryz.prog 123 #[.int .i64 most, .slice bo n c] w fun e w' => SeatsAns most n S e ∧ Below w.heap.size w w' := by
  have HZ : Hid (SeatsAt w bo n S) := hz
  clear hz
  by_cases g0 : In most 0 500
  · have e0 : decide (In most 0 500) = true := decide_eq_true g0
    have H0 : Hid (In most 0 500) := g0
    clear g0
    by_cases h60 : n ≤ 60
    · have d0 : decide (60 < n) = false := by simp; omega
      go_enter Tryz.func123, Tryz.ntmps123
      go_wp2_with (first | (go_at_call 143; refine (within_is _ _ _ _).mono ?_; rintro e w' ⟨rfl, hw'⟩; have hw' := hw'.symm; subst hw'))
      go_loopw [6, 7, 8, 20] (fun v _ _ i wr => ∃ k : Nat, k ≤ n ∧ i = .int .i64 k ∧ v = .int .i64 (most - sits S k) ∧ (∀ j, j < k → In (S j).who 1 9999 ∧ ¬ Has (whoT S) j (S j).who ∧ In (S j).many 1 20) ∧ sits S k ≤ most ∧ Below w.heap.size w wr) (fun _ _ _ i _ => n - (intOf i).toNat)
      case atStart => exact ⟨0, Nat.zero_le _, rfl, by simp [sits], fun j hj => by omega, H0.out.1, Below.refl _ _⟩
      case round =>
        obtain ⟨i, hi, rfl, rfl, hall, hsum, hbel⟩ := hrel
        have HA : Hid (∀ j, j < i → In (S j).who 1 9999 ∧ ¬ Has (whoT S) j (S j).who ∧ In (S j).many 1 20) := hall
        have HS : Hid (sits S i ≤ most) := hsum
        clear hall hsum e0 d0
        by_cases hlt : i < n
        · obtain ⟨b, off, rfl, h0, h1⟩ := HZ.out i hlt
          have hb := World.block_lt_of_cell? w _ h0
          have c0 := (hbel.cell (p := ⟨b, off + i * 2, none⟩) hb).trans h0
          have c1 := (hbel.cell (p := ⟨b, off + i * 2 + 1, none⟩) hb).trans h1
          have hbox := heap_alloc_new wr (.cells #[.int .i64 (S i).who, .int .i64 (S i).many] 126)
          have hbx := push hbel (.cells #[.int .i64 (S i).who, .int .i64 (S i).many] 126)
          clear h0 h1
          go_upto_region 7 with fail
          generalize hW : wr.alloc (.cells #[.int .i64 (S i).who, .int .i64 (S i).many] 126) = W at hbox hbx ⊢
          clear hW
          have hsW : wr.heap.size < W.heap.size := blk_lt hbox
          have z0 : ∀ g : Grown W, g.val.cell? ⟨wr.heap.size, 0, none⟩ = some (.int .i64 (S i).who) := fun g => (g.bel.cell hsW).trans (blk_cell hbox 0 _ rfl)
          have z1 : ∀ g : Grown W, g.val.cell? ⟨wr.heap.size, 1, none⟩ = some (.int .i64 (S i).many) := fun g => (g.bel.cell hsW).trans (blk_cell hbox 1 _ rfl)
          have i1 : (0 : Int) ≤ (i : Int) := by omega
          have i2 : (i : Int) ≤ (c : Int) := by omega
          clear c0 c1 hbox hbel
          by_cases g1 : In (S i).who 1 9999
          · have e1 : decide (In (S i).who 1 9999) = true := decide_eq_true g1
            have H1 : Hid (In (S i).who 1 9999) := g1
            clear g1
            by_cases g2 : Has (whoT S) i (S i).who
            · have e2 : decide (0 ≤ ixAns (whoT S) (S i).who i) = true := decide_eq_true ((ixAns_has _ _ _).2 g2)
              have H2 : Hid (Has (whoT S) i (S i).who) := g2
              clear g2
              refine wp_region_grow (by kernel_rfl) (by kernel_rfl) ?_
              repeat (first | go_big_quiet_skip | (go_big_quiet_want; go_big_quiet_op; first | go_big_quiet_on | (apply Exists.intro; refine ⟨fun g => ?_, ?_⟩; (focus (first | (go_at_call 146; refine grown_call (v := .bool true) ((isBy_is _ _).mono ?_); rintro e w4 ⟨rfl, rfl⟩; exact ⟨by rw [e1], Below.refl _ _⟩) | (go_at_call 154; refine grown_call (v := .int .i64 (ixAns (whoT S) (S i).who i)) ((seatOf_any _ i c S (S i).who _ (by omega) ((HZ.out.upto (by omega)).below (after hbx g.bel))).mono ?_); rintro e w4 ⟨rfl, hbb⟩; exact ⟨rfl, hbb⟩))); go_big_quiet_on)))
              refine wpQuiet_nil ?_
              rintro _ ⟨g, rfl⟩
              go_wp2
              exact bodyPost_ret (v := .tuple #[.int .i64 0, .bool false]) (by simp [results, Tryz.results123, go_sem]) rfl ⟨.inr ⟨fun h => (h.2.2.1 i hlt).2.1 H2.out, rfl⟩, after hbx g.bel⟩
            · have e2 : decide (0 ≤ ixAns (whoT S) (S i).who i) = false := decide_eq_false (fun h => g2 ((ixAns_has _ _ _).1 h))
              have H2 : Hid (¬ Has (whoT S) i (S i).who) := g2
              clear g2
              by_cases g3 : In (S i).many 1 (if most - sits S i < 20 then most - sits S i else 20)
              · have e3 : decide (In (S i).many 1 (if most - sits S i < 20 then most - sits S i else 20)) = true := decide_eq_true g3
                have H3 : Hid (In (S i).many 1 20 ∧ sits S (i + 1) ≤ most) := by
                  have h3 : sits S (i + 1) = sits S i + (S i).many := rfl
                  unfold In at g3 ⊢
                  show (_ ∧ _) ∧ _
                  rw [h3]
                  split at g3 <;> omega
                clear g3
                have hwr : IntKind.i64.wrap (most - sits S i - (S i).many) = most - sits S (i + 1) := by
                  have h1 := sits_bounds S i (fun j hj => (HA.out j hj).2.2)
                  have h2 := H3.out.1
                  have h0 := H0.out
                  unfold In at h2 h0
                  have h3 : sits S (i + 1) = sits S i + (S i).many := rfl
                  rw [h3, IntKind.wrap_i64]; omega
                refine wp_region_grow (by kernel_rfl) (by kernel_rfl) ?_
                repeat (first | go_big_quiet_skip | (go_big_quiet_want; go_big_quiet_op; first | go_big_quiet_on | (apply Exists.intro; refine ⟨fun g => ?_, ?_⟩; (focus (first | (go_at_call 146; refine grown_call (v := .bool true) ((isBy_is _ _).mono ?_); rintro e w4 ⟨rfl, rfl⟩; exact ⟨by rw [e1], Below.refl _ _⟩) | (go_at_call 154; refine grown_call (v := .int .i64 (ixAns (whoT S) (S i).who i)) ((seatOf_any _ i c S (S i).who _ (by omega) ((HZ.out.upto (by omega)).below (after hbx g.bel))).mono ?_); rintro e w4 ⟨rfl, hbb⟩; exact ⟨rfl, hbb⟩) | (go_at_call 143; refine grown_call (v := .bool true) ((within_is _ _ _ _).mono ?_); rintro e w4 ⟨rfl, rfl⟩; exact ⟨by rw [e3], Below.refl _ _⟩))); go_big_quiet_on)))
                refine wpQuiet_nil ?_
                rintro _ ⟨g, rfl⟩
                have v1 := z1 g
                clear e3
                generalize (if most - sits S i < 20 then most - sits S i else 20) = mn
                go_wp2
                have HAN : Hid (∀ j, j < i + 1 → In (S j).who 1 9999 ∧ ¬ Has (whoT S) j (S j).who ∧ In (S j).many 1 20) := fun j hj => by
                  by_cases e : j = i
                  · subst e; exact ⟨H1.out, H2.out, H3.out.1⟩
                  · exact HA.out j (by omega)
                go_roundw
                case rel => exact ⟨i + 1, by omega, by go_num, rfl, HAN.out, H3.out.2, after hbx g.bel⟩
                case measure => simp [intOf]; omega
              · have e3 : decide (In (S i).many 1 (if most - sits S i < 20 then most - sits S i else 20)) = false := decide_eq_false g3
                have H3 : Hid (¬ SeatsOk most n S) := fun h => by
                  have h1 := (h.2.2.1 i hlt).2.2
                  have h2 := sits_mono S (i + 1) n (by omega) (fun j hj => (h.2.2.1 j hj).2.2)
                  have h4 := h.2.2.2
                  have h3 : sits S (i + 1) = sits S i + (S i).many := rfl
                  unfold In at g3 h1
                  split at g3 <;> omega
                clear g3
                refine wp_region_grow (by kernel_rfl) (by kernel_rfl) ?_
                repeat (first | go_big_quiet_skip | (go_big_quiet_want; go_big_quiet_op; first | go_big_quiet_on | (apply Exists.intro; refine ⟨fun g => ?_, ?_⟩; (focus (first | (go_at_call 146; refine grown_call (v := .bool true) ((isBy_is _ _).mono ?_); rintro e w4 ⟨rfl, rfl⟩; exact ⟨by rw [e1], Below.refl _ _⟩) | (go_at_call 154; refine grown_call (v := .int .i64 (ixAns (whoT S) (S i).who i)) ((seatOf_any _ i c S (S i).who _ (by omega) ((HZ.out.upto (by omega)).below (after hbx g.bel))).mono ?_); rintro e w4 ⟨rfl, hbb⟩; exact ⟨rfl, hbb⟩) | (go_at_call 143; refine grown_call (v := .bool false) ((within_is _ _ _ _).mono ?_); rintro e w4 ⟨rfl, rfl⟩; exact ⟨by rw [e3], Below.refl _ _⟩))); go_big_quiet_on)))
                refine wpQuiet_nil ?_
                rintro _ ⟨g, rfl⟩
                clear e3
                generalize (if most - sits S i < 20 then most - sits S i else 20) = mn
                go_wp2
                exact bodyPost_ret (v := .tuple #[.int .i64 0, .bool false]) (by simp [results, Tryz.results123, go_sem]) rfl ⟨.inr ⟨H3.out, rfl⟩, after hbx g.bel⟩
          · have e1 : decide (In (S i).who 1 9999) = false := decide_eq_false g1
            have H1 : Hid (¬ In (S i).who 1 9999) := g1
            clear g1
            refine wp_region_grow (by kernel_rfl) (by kernel_rfl) ?_
            repeat (first | go_big_quiet_skip | (go_big_quiet_want; go_big_quiet_op; first | go_big_quiet_on | (apply Exists.intro; refine ⟨fun g => ?_, ?_⟩; (focus (first | (go_at_call 146; refine grown_call (v := .bool false) ((isBy_is _ _).mono ?_); rintro e w4 ⟨rfl, rfl⟩; exact ⟨by rw [e1], Below.refl _ _⟩))); go_big_quiet_on)))
            refine wpQuiet_nil ?_
            rintro _ ⟨g, rfl⟩
            go_wp2
            exact bodyPost_ret (v := .tuple #[.int .i64 0, .bool false]) (by simp [results, Tryz.results123, go_sem]) rfl ⟨.inr ⟨fun h => H1.out (h.2.2.1 i hlt).1, rfl⟩, after hbx g.bel⟩
        · obtain rfl : i = n := by omega
          go_wp2
          exact bodyPost_ret (v := .tuple #[.int .i64 (most - sits S i), .bool true]) (by simp [results, Tryz.results123, go_sem]) rfl ⟨.inl ⟨⟨H0.out, h60, HA.out, HS.out⟩, rfl⟩, hbel⟩
    · have d0 : decide (60 < n) = true := by simp; omega
      go_enter Tryz.func123, Tryz.ntmps123
      go_wp2_with (first | (go_at_call 143; refine (within_is _ _ _ _).mono ?_; rintro e w' ⟨rfl, hw'⟩; have hw' := hw'.symm; subst hw'))
      exact bodyPost_ret (v := .tuple #[.int .i64 0, .bool false]) (by simp [results, Tryz.results123, go_sem]) rfl ⟨.inr ⟨fun h => h60 h.2.1, rfl⟩, Below.refl _ _⟩
  · have e0 : decide (In most 0 500) = false := decide_eq_false g0
    have H0 : Hid (¬ In most 0 500) := g0
    clear g0
    go_enter Tryz.func123, Tryz.ntmps123
    go_wp2_with (first | (go_at_call 143; refine (within_is _ _ _ _).mono ?_; rintro e w' ⟨rfl, hw'⟩; have hw' := hw'.symm; subst hw'))
    exact bodyPost_ret (v := .tuple #[.int .i64 0, .bool false]) (by simp [results, Tryz.results123, go_sem]) rfl ⟨.inr ⟨fun h => H0.out h.1, rfl⟩, Below.refl _ _⟩
theorem implSeats_any (most : Int) (bo : Option Addr) (n c : Nat) (S : Nat → Seat) (w : World) (hn : n ≤ 2097152) (hc : n ≤ c) (hz : SeatsAt w bo n S) :
    Calls Tryz.prog 109 #[.int .i64 most, .slice bo n c] w fun e w' => SaysIf (SeatsOk most n S) e ∧ Below w.heap.size w w' := by
  have HZ : Hid (SeatsAt w bo n S) := hz
  clear hz
  go_enter Tryz.func109, Tryz.ntmps109
  go_wp2_with fail
  refine (freeSeats_any most bo n c S _ hn hc HZ.out).mono ?_
  rintro e w1 ⟨hans, hb1⟩
  rcases hans with ⟨hok, rfl⟩ | ⟨hno, rfl⟩
  · have HOK : Hid (SeatsOk most n S) := hok
    clear hok
    go_wp2
    go_ret
    exact ⟨says_yes HOK.out, hb1⟩
  · have HNO : Hid (¬ SeatsOk most n S) := hno
    clear hno
    go_wp2
    go_ret
    exact ⟨says_no HNO.out, hb1⟩
end Go.Proofs.YtlelckbeoclhbaaGreat

namespace Go.Proofs.YtlelckbeoclhbaaGreat
open Go.RowKit
open Classical in
noncomputable def deckOk (p : Pairs) (n : Nat) (S : Nat → Stay) : Bool := decide (DeckI p n S)
noncomputable def freeLen (p : Pairs) (n : Nat) (S : Nat → Stay) : Nat := if deckOk p n S then p.n else 0
theorem deckOk_yes {p : Pairs} {n : Nat} {S : Nat → Stay} (h : DeckI p n S) : deckOk p n S = true := by unfold deckOk; simpa using h
theorem deckOk_no {p : Pairs} {n : Nat} {S : Nat → Stay} (h : ¬ DeckI p n S) : deckOk p n S = false := by unfold deckOk; simpa using h
theorem freeLen_yes {p : Pairs} {n : Nat} {S : Nat → Stay} (h : DeckI p n S) : freeLen p n S = p.n := by unfold freeLen; rw [deckOk_yes h]; rfl
theorem freeLen_no {p : Pairs} {n : Nat} {S : Nat → Stay} (h : ¬ DeckI p n S) : freeLen p n S = 0 := by unfold freeLen; rw [deckOk_no h]; rfl
theorem freeLen_le (p : Pairs) (n : Nat) (S : Nat → Stay) : freeLen p n S ≤ 4 := by
  by_cases h : DeckI p n S
  · rw [freeLen_yes h]; exact h.1.1
  · rw [freeLen_no h]; omega
def FreeRes (w' : World) (base : Nat) (p : Pairs) (n : Nat) (S : Nat → Stay) (e : Ending) : Prop :=
  ∃ v, e = .returned (.tuple #[v, .bool (deckOk p n S)]) ∧ w'.ownsRow base 3 1 v (freeLen p n S) (intList (left p S n) (freeLen p n S))
theorem freeRes_no {w : World} {base : Nat} {p : Pairs} {n : Nat} {S : Nat → Stay} (h : ¬ DeckI p n S) : FreeRes w base p n S (.returned (.tuple #[.slice none 0 0, .bool false])) :=
  ⟨_, by rw [deckOk_no h], by rw [freeLen_no h]; exact ⟨rfl, .inl ⟨rfl, rfl⟩⟩⟩
theorem freeRes_yes {w : World} {base m : Nat} {p : Pairs} {n : Nat} {S : Nat → Stay} {v : Value} (h : DeckI p n S) (hm : p.n = m) (ho : w.ownsRow base 3 1 v m (intList (left p S n) m)) : FreeRes w base p n S (.returned (.tuple #[v, .bool true])) :=
  ⟨_, by rw [deckOk_yes h], by rw [freeLen_yes h, hm]; exact ho⟩
end Go.Proofs.YtlelckbeoclhbaaGreat

namespace Go.Proofs.YtlelckbeoclhbaaGreat
open Go.RowKit Classical
noncomputable def viewW (x : Off) : ViewW where
  bn := x.bkn
  bk := x.bk
  N := x.san
  rn := fun i => (rowsL (x.ld i) x.bk (x.sa i).id x.bkn).length
  rf := fun i => nthR (rowsL (x.ld i) x.bk (x.sa i).id x.bkn)
  ln := fun i => (x.sa i).la.n
  lf := fun i => left (x.sa i).la (x.ld i).st (x.ld i).stn
  qn := fun i => (x.sa i).ca.n
  qf := fun i => leftR (x.sa i).ca (x.ld i).ro (x.ld i).ron
  pf := fun i => (x.sa i).most - sits (x.ld i).se (x.ld i).sen
def noView : ViewW := ⟨0, fun _ => ⟨0, 0, ⟨#[]⟩, 0, fun _ => 0, 0, 0, 0, 0, false, 0, 0, 0, 0⟩, 0, fun _ => 0, fun _ _ => ⟨0, ⟨#[]⟩, 0, 0, 0⟩, fun _ => 0, fun _ _ => 0, fun _ => 0, fun _ _ => 0, fun _ => 0⟩
noncomputable def viewA (x : Off) : ViewW := if OffOk x then viewW x else noView
theorem viewA_yes {x : Off} (h : OffOk x) : viewA x = viewW x := if_pos h
theorem viewA_no {x : Off} (h : ¬ OffOk x) : viewA x = noView := if_neg h
theorem viewW_short {x : Off} (h : OffOk x) (hs : Off.Short x 1048576) : VShort (viewW x) := by
  have h1 := h.2.2.1
  have h2 := h.1.1
  refine ⟨by show x.bkn ≤ 1000; omega, hs.2.2.2, by show x.san ≤ 1000; omega, fun i hi => ?_, fun i hi => (hs.1.2 i hi).2.2.1, fun i hi => (hs.1.2 i hi).2.2.2⟩
  have := rowsL_le (x.ld i) x.bk (x.sa i).id x.bkn
  show (rowsL (x.ld i) x.bk (x.sa i).id x.bkn).length ≤ 1048576
  omega
theorem viewA_short {x : Off} (hs : Off.Short x 1048576) : VShort (viewA x) := by
  by_cases h : OffOk x
  · rw [viewA_yes h]; exact viewW_short h hs
  · rw [viewA_no h]; exact ⟨Nat.zero_le _, fun i hi => absurd hi (Nat.not_lt_zero _), Nat.zero_le _, fun i hi => absurd hi (Nat.not_lt_zero _), fun i hi => absurd hi (Nat.not_lt_zero _), fun i hi => absurd hi (Nat.not_lt_zero _)⟩
theorem ids_up {x : Off} (h : OffOk x) : ∀ i j, i < j → j < x.san → (x.sa i).id < (x.sa j).id := by
  intro i j hij
  induction j with
  | zero => omega
  | succ j ih =>
    intro hj
    have h1 := (h.1.2 (j + 1) hj).2 (by omega)
    have h1 : (x.sa j).id < (x.sa (j + 1)).id := h1
    by_cases e : i = j
    · subst e; exact h1
    · have := ih (by omega) (by omega); omega
structure SVt (W0 u : World) (base : Nat) (V : ViewW) (k1 k2 k3 k4 sb st : Nat) (sc : Array Value) (vb vr vl vq vp ur ul uq up : Value) (E R L Q : Nat → Value) : Prop where
  vt : VTo u base W0.heap.size V k1 k2 k3 k4 vb vr vl vq vp E R L Q
  box : u.heap[W0.heap.size]? = some (.cells #[vb, ur, ul, uq, up] 33 (0, 0))
  sbx : u.heap[sb]? = some (.cells sc st (0, 0))
  bel : Below W0.heap.size W0 u
  lt : W0.heap.size < sb
section
variable {W0 u u' : World} {base : Nat} {V : ViewW} {k1 k2 k3 k4 sb st : Nat} {sc : Array Value} {vb vr vl vq vp ur ul uq up : Value} {E R L Q : Nat → Value}
theorem SVt.below (h : SVt W0 u base V k1 k2 k3 k4 sb st sc vb vr vl vq vp ur ul uq up E R L Q) (hb : Below u.heap.size u u') : SVt W0 u' base V k1 k2 k3 k4 sb st sc vb vr vl vq vp ur ul uq up E R L Q :=
  ⟨h.vt.below hb, blk_below h.box hb, blk_below h.sbx hb, h.bel.trans (hb.mono (blk_lt h.box |> Nat.le_of_lt)), h.lt⟩
theorem SVt.grow {v : Value} {e sz n : Nat} {xs : List Value} (h : SVt W0 u base V k1 k2 k3 k4 sb st sc vb vr vl vq vp ur ul uq up E R L Q) (ho : u.ownsRow W0.heap.size e sz v n xs) (hg : u.grownBy u' v.ownBlock) (h1 : e ≠ 33) (h2 : e ≠ st) :
    u'.heap[W0.heap.size]? = some (.cells #[vb, ur, ul, uq, up] 33 (0, 0)) ∧ u'.heap[sb]? = some (.cells sc st (0, 0)) ∧ Below W0.heap.size W0 u' :=
  ⟨(kept_row hg).blk h.box (fun q => own_notE ho h.box h1 _ q rfl), (kept_row hg).blk h.sbx (fun q => own_notE ho h.sbx h2 _ q rfl), h.bel.grown hg h.bel.size (fun j hj => (ho.lt j hj).1)⟩
theorem SVt.sto (h : SVt W0 u base V k1 k2 k3 k4 sb st sc vb vr vl vq vp ur ul uq up E R L Q) (i : Nat) (v : Value) :
    VTo (u.setCell ⟨W0.heap.size, i, none⟩ v) base W0.heap.size V k1 k2 k3 k4 vb vr vl vq vp E R L Q ∧ (u.setCell ⟨W0.heap.size, i, none⟩ v).heap[W0.heap.size]? = some (.cells (#[vb, ur, ul, uq, up].setIfInBounds i v) 33 (0, 0)) ∧ (u.setCell ⟨W0.heap.size, i, none⟩ v).heap[sb]? = some (.cells sc st (0, 0)) ∧ Below W0.heap.size W0 (u.setCell ⟨W0.heap.size, i, none⟩ v) := by
  have hk : Kept u (u.setCell ⟨W0.heap.size, i, none⟩ v) (fun b => b = W0.heap.size) := (Kept.refl u (fun b => b = W0.heap.size)).set (a := ⟨W0.heap.size, i, none⟩) rfl _
  refine ⟨h.vt.other hk (fun b e => ?_), blk_set h.box i v, hk.blk h.sbx (fun e => ?_), h.bel.setCell (p := ⟨W0.heap.size, i, none⟩) (Nat.le_refl _) _⟩
  · have e : b = W0.heap.size := e
    subst e
    exact ⟨_, _, h.box, by decide, by decide, by decide, by decide, by decide⟩
  · have e : sb = W0.heap.size := e
    have := h.lt
    omega
end
end Go.Proofs.YtlelckbeoclhbaaGreat
