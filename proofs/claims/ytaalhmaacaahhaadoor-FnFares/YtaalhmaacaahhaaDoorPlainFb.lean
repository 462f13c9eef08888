/-
  OWN TEXT: prices in plain words: at most the sum of the parts, at least 1, and no less for one more. No theorem of the program.
-/
import Derived.Test.YtaalhmaacaahhaaDoorPlainFa
namespace Go.Proofs.YtaalhmaacaahhaaDoor
open Go.RowKit

theorem legs_three {l : Int} (h : In l 1 3) : l = 1 ∨ l = 2 ∨ l = 3 := by unfold In at h; omega
theorem lessOf_le {pe legs n : Int} (h : 0 ≤ n) : lessOf pe legs n ≤ n := by
  unfold lessOf
  dsimp only
  repeat' split
  all_goals omega
theorem lessOf_pos {pe legs n : Int} (h : 40 ≤ n) : 1 ≤ lessOf pe legs n := by
  unfold lessOf
  dsimp only
  repeat' split
  all_goals omega
theorem lessOf_up {pe legs n m : Int} (h : n + 40 ≤ m) (h7 : ¬ pe = 7) : lessOf pe legs n ≤ lessOf (pe + 1) legs m := by
  unfold lessOf
  dsimp only
  by_cases h8 : 8 ≤ pe
  · rw [if_pos h8, if_pos (show 8 ≤ pe + 1 by omega)]
    split
    all_goals omega
  · rw [if_neg h8, if_neg (show ¬ 8 ≤ pe + 1 by omega)]
    split
    all_goals omega
theorem price_le {p : Party} {legs : Int} (h : PriceOk p legs) : priceOf p legs ≤ legs * (40 * p.pe + carFare p.len p.hei + cabinFare p.cl p.all p.be) := by
  have h1 := carFare_bounds p.len p.hei
  have h2 := cabinFare_bounds p.cl p.all p.be
  have h3 := h.1.1
  unfold In at h3
  refine lessOf_le ?_
  rcases legs_three h.2 with e | e | e <;> rw [e] <;> omega
theorem price_pos {p : Party} {legs : Int} (h : PriceOk p legs) : 1 ≤ priceOf p legs := by
  have h1 := carFare_bounds p.len p.hei
  have h2 := cabinFare_bounds p.cl p.all p.be
  have h3 := h.1.1
  unfold In at h3
  refine lessOf_pos ?_
  rcases legs_three h.2 with e | e | e <;> rw [e] <;> omega
theorem price_up {pe len hei cl : Int} {all : Bool} {be legs : Int} (h : PriceOk ⟨pe, len, hei, cl, all, be⟩ legs) (h7 : ¬ pe = 7) (h20 : ¬ pe = 20) :
    PriceOk ⟨pe + 1, len, hei, cl, all, be⟩ legs ∧ priceOf ⟨pe, len, hei, cl, all, be⟩ legs ≤ priceOf ⟨pe + 1, len, hei, cl, all, be⟩ legs := by
  have h1 := carFare_bounds len hei
  have h2 := cabinFare_bounds cl all be
  have h3 : In pe 1 20 := h.1.1
  unfold In at h3
  refine ⟨⟨⟨⟨by show 1 ≤ pe + 1; omega, by show pe + 1 ≤ 20; omega⟩, h.1.2⟩, h.2⟩, lessOf_up ?_ h7⟩
  show legs * (40 * pe + carFare len hei + cabinFare cl all be) + 40 ≤ legs * (40 * (pe + 1) + carFare len hei + cabinFare cl all be)
  rcases legs_three h.2 with e | e | e <;> rw [e] <;> omega

end Go.Proofs.YtaalhmaacaahhaaDoor
