/-
  OWN TEXT: KitOwnC, AtomI.
-/
import Derived.Laws.LoneSync
import Derived.Test.YtogbaoggebghdaaB05
import Derived.Test.YtogbaoggebghdaaB06
import Derived.Test.YtogbaoggebghdaaB07
namespace Go.Proofs.Ytogbaoggebghdaa
open Go.RowKit

/-- The cells of clerks; R their rows. -/
def clkCell (S : Nat → ClkD) (R : Nat → Value) (j : Nat) : Value :=
  if j % 7 = 0 then .string (S (j / 7)).nam else if j % 7 = 1 then .int .i64 (S (j / 7)).num else if j % 7 = 2 then .bool (S (j / 7)).opn else if j % 7 = 3 then .int .i64 (S (j / 7)).code else if j % 7 = 4 then .int .i64 (S (j / 7)).anam else if j % 7 = 5 then .int .i64 (S (j / 7)).price else R (j / 7)
theorem clkCell_0 (S : Nat → ClkD) (R : Nat → Value) (k : Nat) : clkCell S R (k * 7) = .string (S k).nam := by
  unfold clkCell; rw [if_pos (by omega), show (k * 7) / 7 = k by omega]
theorem clkCell_1 (S : Nat → ClkD) (R : Nat → Value) (k : Nat) : clkCell S R (k * 7 + 1) = .int .i64 (S k).num := by
  unfold clkCell; rw [if_neg (by omega), if_pos (by omega), show (k * 7 + 1) / 7 = k by omega]
theorem clkCell_2 (S : Nat → ClkD) (R : Nat → Value) (k : Nat) : clkCell S R (k * 7 + 2) = .bool (S k).opn := by
  unfold clkCell; rw [if_neg (by omega), if_neg (by omega), if_pos (by omega), show (k * 7 + 2) / 7 = k by omega]
theorem clkCell_3 (S : Nat → ClkD) (R : Nat → Value) (k : Nat) : clkCell S R (k * 7 + 3) = .int .i64 (S k).code := by
  unfold clkCell; rw [if_neg (by omega), if_neg (by omega), if_neg (by omega), if_pos (by omega), show (k * 7 + 3) / 7 = k by omega]
theorem clkCell_4 (S : Nat → ClkD) (R : Nat → Value) (k : Nat) : clkCell S R (k * 7 + 4) = .int .i64 (S k).anam := by
  unfold clkCell; rw [if_neg (by omega), if_neg (by omega), if_neg (by omega), if_neg (by omega), if_pos (by omega), show (k * 7 + 4) / 7 = k by omega]
theorem clkCell_5 (S : Nat → ClkD) (R : Nat → Value) (k : Nat) : clkCell S R (k * 7 + 5) = .int .i64 (S k).price := by
  unfold clkCell; rw [if_neg (by omega), if_neg (by omega), if_neg (by omega), if_neg (by omega), if_neg (by omega), if_pos (by omega), show (k * 7 + 5) / 7 = k by omega]
theorem clkCell_6 (S : Nat → ClkD) (R : Nat → Value) (k : Nat) : clkCell S R (k * 7 + 6) = R k := by
  unfold clkCell; rw [if_neg (by omega), if_neg (by omega), if_neg (by omega), if_neg (by omega), if_neg (by omega), if_neg (by omega), show (k * 7 + 6) / 7 = k by omega]
/-- Clerks that lie in memory of their own, from base on. -/
structure OwnClks (w : World) (base : Nat) (v : Value) (N : Nat) (S : Nat → ClkD) (R : Nat → Value) : Prop where
  row : w.ownsRow base 68 7 v N ((List.range (N * 7)).map (clkCell S R))
  rows : ∀ i, i < N → w.ownsRow base 84 5 (R i) (S i).rwn (rowList (S i).rw (S i).rwn)
  apart : ∀ i j, i < j → j < N → ∀ b, (R i).ownBlock = some b → (R j).ownBlock ≠ some b
section
variable {w w' : World} {base : Nat} {v : Value} {N : Nat} {S : Nat → ClkD} {R : Nat → Value}
theorem OwnClks.below (h : OwnClks w base v N S R) (hb : Below w.heap.size w w') : OwnClks w' base v N S R :=
  ⟨own_below hb h.row, fun i hi => own_below hb (h.rows i hi), h.apart⟩
theorem OwnClks.kept {T : Nat → Prop} (h : OwnClks w base v N S R) (hk : Kept w w' T) (hT : ∀ b, T b → base ≤ b → b < w.heap.size → False) : OwnClks w' base v N S R :=
  ⟨hk.own h.row (fun g hg s => hT g s (h.row.lt g hg).1 (h.row.lt g hg).2), fun i hi => hk.own (h.rows i hi) (fun g hg s => hT g s ((h.rows i hi).lt g hg).1 ((h.rows i hi).lt g hg).2), h.apart⟩
theorem OwnClks.lower {b1 b2 : Nat} (h : OwnClks w b1 v N S R) (hb : b2 ≤ b1) : OwnClks w b2 v N S R :=
  ⟨own_base h.row hb, fun i hi => own_base (h.rows i hi) hb, h.apart⟩
theorem OwnClks.nil (w : World) (base : Nat) (S : Nat → ClkD) (R : Nat → Value) : OwnClks w base (.slice none 0 0) 0 S R :=
  ⟨⟨rfl, .inl ⟨rfl, rfl⟩⟩, fun i hi => by omega, fun i j hi hj => by omega⟩
theorem OwnClks.at {ao : Option Addr} {c : Nat} (h : OwnClks w base (.slice ao N c) N S R) : ClkDsAt w ao N S := by
  refine ⟨fun k => [.string (S k).nam, .int .i64 (S k).num, .bool (S k).opn, .int .i64 (S k).code, .int .i64 (S k).anam, .int .i64 (S k).price, R k], fun k hk => ?_, fun k hk => ?_⟩
  · obtain ⟨g, rfl, _, _⟩ := own_addr h.row (by omega)
    refine ⟨g, 0, rfl, fun j hj => ?_⟩
    rw [Nat.zero_add, own_cell h.row (k * 7 + j) (by omega) rfl]
    have hm : j = 0 ∨ j = 1 ∨ j = 2 ∨ j = 3 ∨ j = 4 ∨ j = 5 ∨ j = 6 := by omega
    rcases hm with rfl | rfl | rfl | rfl | rfl | rfl | rfl
    · rw [Nat.add_zero, clkCell_0]; rfl
    · rw [clkCell_1]; rfl
    · rw [clkCell_2]; rfl
    · rw [clkCell_3]; rfl
    · rw [clkCell_4]; rfl
    · rw [clkCell_5]; rfl
    · rw [clkCell_6]; rfl
  · obtain ⟨ra, rc, e, l1, l2, l3⟩ := own_form (h.rows k hk)
    have o := h.rows k hk
    rw [e] at o
    have hm : maxLen ≤ 9223372036854775807 := by unfold maxLen; omega
    exact ⟨ra, rc, by simp only [e], rows_of_own o, ⟨l1, by omega, l3⟩⟩
theorem clkRow_snoc (S : Nat → ClkD) (R : Nat → Value) (k : Nat) (rv : Value) :
    (List.range ((k + 1) * 7)).map (clkCell S (atV R k rv)) = (List.range (k * 7)).map (clkCell S R) ++ [.string (S k).nam, .int .i64 (S k).num, .bool (S k).opn, .int .i64 (S k).code, .int .i64 (S k).anam, .int .i64 (S k).price, rv] := by
  rw [show (k + 1) * 7 = k * 7 + 1 + 1 + 1 + 1 + 1 + 1 + 1 by omega, List.range_succ, List.range_succ, List.range_succ, List.range_succ, List.range_succ, List.range_succ, List.range_succ]
  simp only [List.map_append, List.map_cons, List.map_nil, List.append_assoc, List.cons_append, List.nil_append]
  rw [clkCell_0, clkCell_1, show k * 7 + 1 + 1 = k * 7 + 2 by omega, clkCell_2, show k * 7 + 2 + 1 = k * 7 + 3 by omega, clkCell_3, show k * 7 + 3 + 1 = k * 7 + 4 by omega, clkCell_4, show k * 7 + 4 + 1 = k * 7 + 5 by omega, clkCell_5, show k * 7 + 5 + 1 = k * 7 + 6 by omega, clkCell_6, atV_at]
  congr 1
  refine List.map_congr_left fun j hj => ?_
  have hj' : j < k * 7 := by simpa using hj
  unfold clkCell
  rw [atV_ne _ _ _ _ (show j / 7 ≠ k by omega)]
/-- One clerk more behind the others. -/
theorem OwnClks.snoc {k : Nat} {v' rv : Value} {lim : Nat} (h : OwnClks w base v k S R) (hlim : ∀ i, i < k → ∀ b, (R i).ownBlock = some b → b < lim)
    (hl : w.ownsRow lim 84 5 rv (S k).rwn (rowList (S k).rw (S k).rwn)) (hbl : base ≤ lim) (hg : w.grownBy w' v.ownBlock)
    (ho : w'.ownsRow base 68 7 v' (k + 1) ((List.range (k * 7)).map (clkCell S R) ++ [.string (S k).nam, .int .i64 (S k).num, .bool (S k).opn, .int .i64 (S k).code, .int .i64 (S k).anam, .int .i64 (S k).price, rv])) :
    OwnClks w' base v' (k + 1) S (atV R k rv) := by
  have hk := kept_row hg
  refine ⟨by rw [clkRow_snoc]; exact ho, fun i hi => ?_, fun i j hij hj => ?_⟩
  · by_cases e : i = k
    · subst e; rw [atV_at]; exact hk.own (own_base hl hbl) (fun g hg1 hg2 => own_apart h.row (own_base hl hbl) (by decide) g hg2 hg1)
    · rw [atV_ne _ _ _ _ e]; exact hk.own (h.rows i (by omega)) (fun g hg1 hg2 => own_apart h.row (h.rows i (by omega)) (by decide) g hg2 hg1)
  · by_cases e : j = k
    · subst e
      rw [atV_at, atV_ne _ _ _ _ (by omega)]
      intro b h1 h3
      have a := hlim i hij b h1
      have c := (hl.lt b h3).1
      omega
    · rw [atV_ne _ _ _ _ e, atV_ne _ _ _ _ (by omega)]
      exact h.apart i j hij (by omega)
theorem OwnClks.congr {S' : Nat → ClkD} (h : OwnClks w base v N S R) (e : ∀ i, i < N → S i = S' i) : OwnClks w base v N S' R := by
  refine ⟨own_congr h.row (fun j hj => ?_), fun i hi => by rw [← e i hi]; exact h.rows i hi, h.apart⟩
  unfold clkCell
  rw [e (j / 7) (by omega)]
end

end Go.Proofs.Ytogbaoggebghdaa

namespace Go.Proofs.Ytogbaoggebghdaa
open Go.RowKit

theorem Try.infoStaff : (Try.prog.info? 107).map (fun i => (i.zero, i.size, i.bytes)) = some (some (.agg #[.slice none 0 0, .map none, .int .i64 0]), 3, 40) := by kernel_rfl

set_option maxHeartbeats 800000 in
theorem atomAdd_any (b : Nat) (z : Int) (w : World) (hc : w.cell? ⟨b, 2, none⟩ = some (.int .i64 z)) (hf : w.frozen? ⟨b, 2, none⟩ = false) (h0 : 0 ≤ z) (h1 : z ≤ 1000000) :
    Calls Try.prog 79 #[.pointer (some ⟨b, 2, none⟩), .int .i64 1] w fun e w' => e = .returned (.int .i64 (z + 1)) ∧ w' = w.setCell ⟨b, 2, none⟩ (.int .i64 (z + 1)) := by
  have hs : (Op.intArith .add .i64 z 1).run Try.prog w = .ok (.int .i64 (z + 1)) w := by
    have : IntKind.i64.wrap (z + 1) = z + 1 := by rw [IntKind.wrap_i64]; omega
    simp [Op.intArith, this]
  have hd := run_call_add (P := Try.prog) Try.func91 (by kernel_rfl) (by kernel_rfl) (by kernel_rfl) .i64 (by kernel_rfl) hc hf hs
  go_enter Try.func79, Try.ntmps79
  go_wp2
  go_ret
  exact ⟨rfl, rfl⟩

set_option maxHeartbeats 800000 in
theorem atomLoad_any (b : Nat) (z : Int) (w : World) (hc : w.cell? ⟨b, 2, none⟩ = some (.int .i64 z)) :
    Calls Try.prog 86 #[.pointer (some ⟨b, 2, none⟩)] w fun e w' => e = .returned (.int .i64 z) ∧ w' = w := by
  have hd := run_call_load (P := Try.prog) Try.func95 (by kernel_rfl) (by kernel_rfl) (by kernel_rfl) .i64 (by kernel_rfl) hc
  go_enter Try.func86, Try.ntmps86
  go_wp2
  go_ret
  exact ⟨rfl, rfl⟩

end Go.Proofs.Ytogbaoggebghdaa
