/-
  OWN TEXT: KitSs, IntsEq, MarkInts, MarkX.
-/
import Derived.Test.YtlelckbeoclhbaaGreatRows
import Derived.Deep.RegionHeld3
import Derived.Test.YtlelckbeoclhbaaGreatB02
import Derived.Test.YtlelckbeoclhbaaGreatB00
import Derived.Test.YtlelckbeoclhbaaGreatB01
set_option maxHeartbeats 12800000
set_option maxRecDepth 100000
namespace Go.Proofs.YtlelckbeoclhbaaGreat
open Go.RowKit
structure OwnSS (w : World) (base tt te sz : Nat) (v : Value) (N : Nat) (n : Nat → Nat) (X : Nat → List Value) (L : Nat → Value) : Prop where
  row : w.ownsRow base tt 1 v N ((List.range N).map L)
  each : ∀ i, i < N → w.ownsRow base te sz (L i) (n i) (X i)
  apart : ∀ i j, i < j → j < N → ∀ b, (L i).ownBlock = some b → (L j).ownBlock ≠ some b
section
variable {w w' : World} {base tt te sz : Nat} {v : Value} {N : Nat} {n : Nat → Nat} {X : Nat → List Value} {L : Nat → Value}
theorem OwnSS.below (h : OwnSS w base tt te sz v N n X L) (hb : Below w.heap.size w w') : OwnSS w' base tt te sz v N n X L := ⟨own_below hb h.row, fun i hi => own_below hb (h.each i hi), h.apart⟩
theorem OwnSS.lower {b2 : Nat} (h : OwnSS w base tt te sz v N n X L) (hb : b2 ≤ base) : OwnSS w b2 tt te sz v N n X L := ⟨own_base h.row hb, fun i hi => own_base (h.each i hi) hb, h.apart⟩
theorem OwnSS.kept {T : Nat → Prop} (h : OwnSS w base tt te sz v N n X L) (hk : Kept w w' T) (h1 : ∀ b, v.ownBlock = some b → ¬ T b) (h2 : ∀ i, i < N → ∀ b, (L i).ownBlock = some b → ¬ T b) : OwnSS w' base tt te sz v N n X L :=
  ⟨hk.own h.row h1, fun i hi => hk.own (h.each i hi) (h2 i hi), h.apart⟩
theorem OwnSS.nil (w : World) (base tt te sz : Nat) (n : Nat → Nat) (X : Nat → List Value) (L : Nat → Value) : OwnSS w base tt te sz (.slice none 0 0) 0 n X L :=
  ⟨⟨rfl, .inl ⟨rfl, rfl⟩⟩, fun i hi => by omega, fun i j hi hj => by omega⟩
theorem OwnSS.ne (h : OwnSS w base tt te sz v N n X L) {i j : Nat} (hi : i < N) (hj : j < N) (hne : i ≠ j) : ∀ b, (L i).ownBlock = some b → (L j).ownBlock ≠ some b := fun b h1 h2 => by
  rcases Nat.lt_or_gt_of_ne hne with e | e
  · exact h.apart i j e hj b h1 h2
  · exact h.apart j i e hi b h2 h1
theorem OwnSS.snoc {k : Nat} {v' lv : Value} (h : OwnSS w base tt te sz v k n X L) (hl : w.ownsRow base te sz lv (n k) (X k)) (hfar : ∀ i, i < k → ∀ b, (L i).ownBlock = some b → lv.ownBlock ≠ some b) (hne : tt ≠ te) (hg : w.grownBy w' v.ownBlock)
    (ho : w'.ownsRow base tt 1 v' (k + 1) ((List.range k).map L ++ [lv])) : OwnSS w' base tt te sz v' (k + 1) n X (atV L k lv) := by
  have hk := kept_row hg
  have e1 : (List.range (k + 1)).map (atV L k lv) = (List.range k).map L ++ [lv] := by
    rw [List.range_succ, List.map_append, List.map_cons, List.map_nil, atV_at]
    congr 1
    exact List.map_congr_left fun j hj => atV_ne _ _ _ _ (by have : j < k := by simpa using hj
                                                             omega)
  refine ⟨by rw [e1]; exact ho, fun i hi => ?_, fun i j hij hj => ?_⟩
  · by_cases e : i = k
    · subst e; rw [atV_at]; exact hk.own hl (fun g hg1 hg2 => own_apart h.row hl hne g hg2 hg1)
    · rw [atV_ne _ _ _ _ e]; exact hk.own (h.each i (by omega)) (fun g hg1 hg2 => own_apart h.row (h.each i (by omega)) hne g hg2 hg1)
  · by_cases e : j = k
    · subst e
      rw [atV_at, atV_ne _ _ _ _ (by omega)]
      exact hfar i hij
    · rw [atV_ne _ _ _ _ e, atV_ne _ _ _ _ (by omega)]
      exact h.apart i j hij (by omega)
theorem OwnSS.congr {n' : Nat → Nat} {X' : Nat → List Value} (h : OwnSS w base tt te sz v N n X L) (e1 : ∀ i, i < N → n i = n' i) (e2 : ∀ i, i < N → X i = X' i) : OwnSS w base tt te sz v N n' X' L :=
  ⟨h.row, fun i hi => by rw [← e1 i hi, ← e2 i hi]; exact h.each i hi, h.apart⟩
def SsB (N : Nat) (L : Nat → Value) (b : Nat) : Prop := ∃ i, i < N ∧ (L i).ownBlock = some b
theorem OwnSS.cellAt {ao : Option Addr} {c : Nat} (h : OwnSS w base tt te sz (.slice ao N c) N n X L) {k : Nat} (hk : k < N) : ∃ g, ao = some ⟨g, 0, none⟩ ∧ w.cell? ⟨g, k, none⟩ = some (L k) := by
  obtain ⟨g, rfl, _, _⟩ := own_addr h.row (by omega)
  exact ⟨g, rfl, own_cell h.row k (by omega) (by omega)⟩
end
def IntSS (w : World) (ao : Option Addr) (N : Nat) (n : Nat → Nat) (F : Nat → Nat → Int) : Prop := ∀ k, k < N → ∃ b off a c, ao = some ⟨b, off, none⟩ ∧ w.cell? ⟨b, off + k, none⟩ = some (.slice a (n k) c) ∧ IntsAt w a (n k) (F k)
theorem IntSS.below {w w' : World} {ao : Option Addr} {N : Nat} {n : Nat → Nat} {F : Nat → Nat → Int} (h : IntSS w ao N n F) (hb : Below w.heap.size w w') : IntSS w' ao N n F := by
  intro k hk
  obtain ⟨b, off, a, c, e, h1, h2⟩ := h k hk
  exact ⟨b, off, a, c, e, (hb.cell (World.block_lt_of_cell? w _ h1)).trans h1, h2.below hb⟩
theorem OwnSS.ints {w : World} {base tt c N : Nat} {ao : Option Addr} {n : Nat → Nat} {F : Nat → Nat → Int} {L : Nat → Value} (h : OwnSS w base tt 3 1 (.slice ao N c) N n (fun i => intList (F i) (n i)) L) : IntSS w ao N n F := by
  intro k hk
  obtain ⟨g, rfl, hc⟩ := h.cellAt hk
  obtain ⟨a, d, e, _⟩ := own_form (h.each k hk)
  have ho := h.each k hk
  rw [e] at ho hc
  exact ⟨g, 0, a, d, rfl, by rw [Nat.zero_add]; exact hc, own_ints ho⟩
def RowSS (w : World) (ao : Option Addr) (N : Nat) (n : Nat → Nat) (F : Nat → Nat → MRow) : Prop := ∀ k, k < N → ∃ b off a c, ao = some ⟨b, off, none⟩ ∧ w.cell? ⟨b, off + k, none⟩ = some (.slice a (n k) c) ∧ MRowsAt w a (n k) (F k)
theorem RowSS.below {w w' : World} {ao : Option Addr} {N : Nat} {n : Nat → Nat} {F : Nat → Nat → MRow} (h : RowSS w ao N n F) (hb : Below w.heap.size w w') : RowSS w' ao N n F := by
  intro k hk
  obtain ⟨b, off, a, c, e, h1, h2⟩ := h k hk
  exact ⟨b, off, a, c, e, (hb.cell (World.block_lt_of_cell? w _ h1)).trans h1, h2.below hb⟩
theorem OwnSS.mrows {w : World} {base tt c N : Nat} {ao : Option Addr} {n : Nat → Nat} {F : Nat → Nat → MRow} {L : Nat → Value} (h : OwnSS w base tt 116 5 (.slice ao N c) N n (fun i => rowList (F i) (n i)) L) : RowSS w ao N n F := by
  intro k hk
  obtain ⟨g, rfl, hc⟩ := h.cellAt hk
  obtain ⟨a, d, e, _⟩ := own_form (h.each k hk)
  have ho := h.each k hk
  rw [e] at ho hc
  exact ⟨g, 0, a, d, rfl, by rw [Nat.zero_add]; exact hc, rows_of_own ho⟩
end Go.Proofs.YtlelckbeoclhbaaGreat

namespace Go.Proofs.YtlelckbeoclhbaaGreat
open Go.RowKit
theorem eqIntS_same (ao bo : Option Addr) (n c1 c2 : Nat) (f : Nat → Int) (w : World) (hn : n ≤ 1048576) (hx : IntsAt w ao n f) (hy : IntsAt w bo n f) :
    Calls Tryz.prog 32 #[.slice ao n c1, .slice bo n c2] w fun e w' => e = .returned (.bool true) ∧ Below w.heap.size w w' := by
  go_enter Tryz.func32, Tryz.ntmps32
  go_wp2
  go_loopw [5] (fun i wr => ∃ k : Nat, k ≤ n ∧ i = .int .i64 k ∧ Below w.heap.size w wr) (fun i _ => n - (intOf i).toNat)
  case atStart => exact ⟨0, Nat.zero_le _, rfl, Below.refl _ _⟩
  case round =>
    obtain ⟨k, hk, rfl, hbel⟩ := hrel
    by_cases hlt : k < n
    · obtain ⟨b, off, rfl, hc⟩ := hx k (by omega)
      obtain ⟨b2, off2, rfl, hd⟩ := hy k (by omega)
      have hc' : wr.cell? ⟨b, off + k, none⟩ = some (.int .i64 (f k)) := (hbel.cell (World.block_lt_of_cell? w _ hc)).trans hc
      have hd' : wr.cell? ⟨b2, off2 + k, none⟩ = some (.int .i64 (f k)) := (hbel.cell (World.block_lt_of_cell? w _ hd)).trans hd
      clear hc hd
      go_wp2
      go_quiet (fail)
      go_wp2
      go_roundw
      case rel => exact ⟨k + 1, by omega, by go_num, below_drewN hbel _⟩
      case measure => simp [intOf]; omega
    · go_wp2
      go_ret
      exact ⟨rfl, hbel⟩
end Go.Proofs.YtlelckbeoclhbaaGreat

namespace Go.Proofs.YtlelckbeoclhbaaGreat
open Go.RowKit
theorem markIntS_own (ao : Option Addr) (n c base : Nat) (F : Nat → Int) (k0 : Int) (w : World) (hn : n ≤ 4194304) (h0 : 0 ≤ k0) (h1 : k0 ≤ 1000000000000000) (ho : w.ownsRow base 3 1 (.slice ao n c) n (intList F n)) :
    Calls Tryz.prog 40 #[.slice ao n c, .int .i64 k0] w fun e w' => e = .returned (.int .i64 (k0 + n)) ∧ w'.ownsRow base 3 1 (.slice ao n c) n (intList (fun j => k0 + j) n) ∧ Kept w w' (fun b => ∃ g, ao = some ⟨g, 0, none⟩ ∧ b = g) := by
  go_enter Tryz.func40, Tryz.ntmps40
  go_wp2
  go_loopw [1, 5] (fun q i wr => ∃ t : Nat, t ≤ n ∧ i = .int .i64 t ∧ q = .int .i64 (k0 + t) ∧ wr.ownsRow base 3 1 (.slice ao n c) n ((List.range n).map (fun j => .int .i64 (if j < t then k0 + j else F j))) ∧ Kept w wr (fun b => ∃ g, ao = some ⟨g, 0, none⟩ ∧ b = g)) (fun _ i _ => n - (intOf i).toNat)
  case atStart => exact ⟨0, Nat.zero_le _, rfl, by simp, own_congr ho (by intro i _; simp), Kept.refl _ _⟩
  case round =>
    obtain ⟨t, ht, rfl, rfl, hown, hk⟩ := hrel
    by_cases hlt : t < n
    · obtain ⟨g, rfl, hg1, hg2⟩ := own_addr hown (by omega)
      have hc := own_cell hown t (by omega) (by omega)
      have hf := hown.frozenAt t
      go_wp2
      go_roundw
      case rel =>
        refine ⟨t + 1, by omega, by go_num, by go_num, ?_, hk.set ⟨g, rfl, rfl⟩ _⟩
        refine own_congr (own_store hown t _) (fun i _ => ?_)
        by_cases e : i = t
        · subst e; simp
        · simp only [if_neg e]
          by_cases e2 : i < t
          · rw [if_pos e2, if_pos (by omega)]
          · rw [if_neg e2, if_neg (by omega)]
      case measure => simp [intOf]; omega
    · have : t = n := by omega
      subst this
      go_wp2
      go_ret
      exact ⟨rfl, own_congr hown (by intro i hi; simp [hi]), hk⟩
theorem heldIntS_yes (ao : Option Addr) (n c : Nat) (k0 : Int) (w : World) (hn : n ≤ 4194304) (h0 : 0 ≤ k0) (h1 : k0 ≤ 1000000000000000) (hz : IntsAt w ao n (fun j => k0 + j)) :
    Calls Tryz.prog 44 #[.slice ao n c, .int .i64 k0] w fun e w' => e = .returned (.int .i64 (k0 + n)) ∧ w' = w := by
  go_enter Tryz.func44, Tryz.ntmps44
  go_wp2
  go_loop [1, 5] (fun q i => ∃ t : Nat, t ≤ n ∧ i = .int .i64 t ∧ q = .int .i64 (k0 + t)) (fun _ i => n - (intOf i).toNat)
  case atStart => exact ⟨0, Nat.zero_le _, rfl, by simp⟩
  case round =>
    obtain ⟨t, ht, rfl, rfl⟩ := hrel
    by_cases hlt : t < n
    · obtain ⟨b, off, rfl, hc⟩ := hz t hlt
      go_wp2
      go_round
      case rel => exact ⟨t + 1, by omega, by go_num, by go_num⟩
      case measure => simp [intOf]; omega
    · have : t = n := by omega
      subst this
      go_wp2
      go_ret
      exact ⟨rfl, rfl⟩
end Go.Proofs.YtlelckbeoclhbaaGreat

namespace Go.Proofs.YtlelckbeoclhbaaGreat
open Go.RowKit
theorem markText_any (k : Nat) (w : World) (hk : k ≤ 1000000000000000) :
    Calls Tryz.prog 74 #[.int .i64 k] w fun e w' => (∃ s, e = .returned (.string s)) ∧ Below w.heap.size w w' := by
  by_cases h0 : k = 0
  · subst h0
    go_enter Tryz.func74, Tryz.ntmps74
    go_wp2
    go_ret
    exact ⟨⟨_, rfl⟩, Below.refl _ _⟩
  · have d0 : decide ((k : Int) ≤ 0) = false := decide_eq_false (by omega)
    go_enter Tryz.func74, Tryz.ntmps74
    go_wp2
    go_loopw [0, 3] (fun s0 s3 wr => ∃ (q : Nat) (s : ByteArray), s0 = .int .i64 q ∧ s3 = .string s ∧ s.size + q ≤ 1000000000000000 ∧ Below w.heap.size w wr) (fun s0 _ _ => (intOf s0).toNat)
    case atStart => exact ⟨k, ⟨#[]⟩, rfl, rfl, by show 0 + k ≤ _; omega, Below.refl _ _⟩
    case round =>
      obtain ⟨q, s, rfl, rfl, hs, hbel⟩ := hrel
      by_cases hq : q = 0
      · subst hq
        have hsum := run_string_add_sum (P := Tryz.prog) (w := wr) ⟨#[109]⟩ s (by show 1 + s.size ≤ _; omega)
        go_wp2
        go_ret
        exact ⟨⟨_, rfl⟩, hbel⟩
      · have dq : decide ((0 : Int) < (q : Int)) = true := decide_eq_true (by omega)
        have hconv : (convert 190 9 (.slice (some ⟨wr.heap.size, 0, none⟩) 1 1)).run Tryz.prog (wr.alloc (.cells #[.int .u8 (48 + (q : Int) % 10)] 5)) = .ok (.string (ByteArray.empty.push (UInt8.ofNat (48 + (q : Int) % 10).toNat))) (wr.alloc (.cells #[.int .u8 (48 + (q : Int) % 10)] 5)) := by
          rw [run_convert_bytes_string _ 190 9 5 _ 1 1 Tryz.underlying190 Tryz.underlying5 Tryz.underlying9]
          exact run_bytesToString _ _ 1 1 [48 + (q : Int) % 10] (run_loadCells_list _ _ [.int .u8 (48 + (q : Int) % 10)] (fun j v hj => by
            cases j with
            | zero => simp at hj; subst hj; simp [Addr.add, World.cell?_alloc_mark]
            | succ j => simp at hj))
        have hsum := run_string_add_sum (P := Tryz.prog) (w := wr.alloc (.cells #[.int .u8 (48 + (q : Int) % 10)] 5)) (ByteArray.empty.push (UInt8.ofNat (48 + (q : Int) % 10).toNat)) s (by show 1 + s.size ≤ _; omega)
        go_wp2
        refine ⟨⟨q / 10, _, by simp, rfl, ?_, push hbel _⟩, ?_⟩
        · have e : (ByteArray.empty.push (48 + UInt8.ofNat (q % 10)) ++ s).size = 1 + s.size := by
            rw [ByteArray.size_append]; rfl
          rw [e]; omega
        · simp only [intOf]; omega
theorem markText_int (k : Int) (w : World) (h0 : 0 ≤ k) (hk : k ≤ 1000000000000000) :
    Calls Tryz.prog 74 #[.int .i64 k] w fun e w' => (∃ s, e = .returned (.string s)) ∧ Below w.heap.size w w' := by
  obtain ⟨q, rfl⟩ := Int.eq_ofNat_of_zero_le h0
  exact markText_any q w (by omega)
end Go.Proofs.YtlelckbeoclhbaaGreat
