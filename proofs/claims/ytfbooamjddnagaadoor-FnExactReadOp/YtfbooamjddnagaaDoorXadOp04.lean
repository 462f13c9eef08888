/-
  OWN TEXT: PlainBl, PlainQ, SpecCt.
-/
import Derived.Deep.LoopGhost
import Derived.Deep.DeepCutAuto
import Derived.BigQuiet
import Derived.Test.YtfbooamjddnagaaDoorXadOp03
import Derived.Test.YtfbooamjddnagaaDoorXadOp01
namespace Go.Proofs.YtfbooamjddnagaaDoor
open Go.RowKit

theorem cut_of {p : UInt8} {s a b : ByteArray} {f : Bool} (h : CutIs p s a b f) : cutA p s = a ∧ cutB p s = b ∧ cutF p s = f := cut_one (cut_is p s) h
theorem cut_free {p : UInt8} {s : ByteArray} (h : Free p s) : CutIs p s s ⟨#[]⟩ false := ⟨h, .inr ⟨rfl, rfl, rfl⟩⟩
theorem cut_at {p : UInt8} {s a b : ByteArray} (h : Free p a) (e : s = a ++ (⟨#[p]⟩ ++ b)) : CutIs p s a b true := ⟨h, .inl ⟨rfl, by rw [e]; simp⟩⟩
theorem not_digit {n : Nat} (h : n < 48 ∨ 57 < n) (hn : n < 256) : ¬ Digit (UInt8.ofNat n) := by
  unfold Digit
  have : (UInt8.ofNat n).toNat = n := by simp; omega
  rw [this]
  omega
theorem nd64 : ¬ Digit 64 := by unfold Digit; decide
theorem nd43 : ¬ Digit 43 := by unfold Digit; decide
theorem nd47 : ¬ Digit 47 := by unfold Digit; decide
theorem nd120 : ¬ Digit 120 := by unfold Digit; decide
theorem nd44 : ¬ Digit 44 := by unfold Digit; decide
theorem nd32 : ¬ Digit 32 := by unfold Digit; decide

theorem readP_back {p : Party} (hp : PartyOk p) : readP (partyT p) = p := by
  obtain ⟨pe, len, hei, cl, all, be⟩ := p
  have hk := hp
  unfold PartyOk CarOk CabOk In at hp
  dsimp only at hp
  have b0 : 0 ≤ pe ∧ pe ≤ 99999 := by omega
  have b1 : 0 ≤ len ∧ len ≤ 99999 := by omega
  have b2 : 0 ≤ hei ∧ hei ≤ 99999 := by omega
  have b3 : 0 ≤ cl ∧ cl ≤ 99999 := by omega
  have b4 : 0 ≤ be ∧ be ≤ 99999 := by omega
  have ncar : ∀ q : UInt8, ¬ Digit q → q ≠ 43 → q ≠ 47 → Free q (carT ⟨pe, len, hei, cl, all, be⟩) := fun q h1 h2 h3 => by
    unfold carT
    split
    · exact free_nil q
    · exact free_app (free_one h2) (free_app (free_app (free_num h1 b1.1) (free_one h3)) (free_num h1 b2.1))
  -- ahead of the cabin: people and car
  have hA : cutA 43 (numT pe ++ carT ⟨pe, len, hei, cl, all, be⟩) = numT pe ∧ (if cutF 43 (numT pe ++ carT ⟨pe, len, hei, cl, all, be⟩) then numOf (cutA 47 (cutB 43 (numT pe ++ carT ⟨pe, len, hei, cl, all, be⟩))) else 0) = len ∧ (if cutF 43 (numT pe ++ carT ⟨pe, len, hei, cl, all, be⟩) then numOf (cutB 47 (cutB 43 (numT pe ++ carT ⟨pe, len, hei, cl, all, be⟩))) else 0) = hei := by
    by_cases c : len = 0 ∧ hei = 0
    · have e : numT pe ++ carT ⟨pe, len, hei, cl, all, be⟩ = numT pe := by
        unfold carT
        rw [if_pos c]
        exact ByteArray.append_empty
      rw [e]
      obtain ⟨h1, _, h3⟩ := cut_of (cut_free (free_num nd43 b0.1))
      rw [h1, h3]
      exact ⟨rfl, c.1.symm, c.2.symm⟩
    · have e : carT ⟨pe, len, hei, cl, all, be⟩ = ⟨#[43]⟩ ++ (numT len ++ ⟨#[47]⟩ ++ numT hei) := by unfold carT; rw [if_neg c]
      rw [e]
      obtain ⟨h1, h2, h3⟩ := cut_of (cut_at (p := 43) (a := numT pe) (b := numT len ++ ⟨#[47]⟩ ++ numT hei) (free_num nd43 b0.1) rfl)
      obtain ⟨k1, k2, _⟩ := cut_of (cut_at (p := 47) (s := numT len ++ ⟨#[47]⟩ ++ numT hei) (a := numT len) (b := numT hei) (free_num nd47 b1.1) (by rw [ByteArray.append_assoc]))
      rw [h1, h2, h3, k1, k2]
      exact ⟨rfl, numOf_text b1, numOf_text b2⟩
  by_cases c : cl = 0
  · have e : partyT ⟨pe, len, hei, cl, all, be⟩ = numT pe ++ carT ⟨pe, len, hei, cl, all, be⟩ := by unfold partyT; rw [if_pos c]
    have hf : Free 64 (numT pe ++ carT ⟨pe, len, hei, cl, all, be⟩) := free_app (free_num nd64 b0.1) (ncar 64 nd64 (by decide) (by decide))
    obtain ⟨h1, h2, h3⟩ := cut_of (cut_free hf)
    have hz : all = false ∧ be = 0 := by
      rcases hk.2.2 with h | h
      · exact h.2
      · have := h.1.1
        have : 1 ≤ cl := this
        omega
    rw [e]
    unfold readP
    rw [h1, h3, hA.1, hA.2.1, hA.2.2, numOf_text b0]
    obtain ⟨rfl, rfl⟩ := hz
    subst c
    rfl
  · have e : partyT ⟨pe, len, hei, cl, all, be⟩ = (numT pe ++ carT ⟨pe, len, hei, cl, all, be⟩) ++ (⟨#[64]⟩ ++ (numT cl ++ berT ⟨pe, len, hei, cl, all, be⟩)) := by
      unfold partyT cabT
      rw [if_neg c, if_neg c]
      simp only [ByteArray.append_assoc]
    have hf : Free 64 (numT pe ++ carT ⟨pe, len, hei, cl, all, be⟩) := free_app (free_num nd64 b0.1) (ncar 64 nd64 (by decide) (by decide))
    obtain ⟨h1, h2, h3⟩ := cut_of (cut_at hf rfl)
    have hz := hk.2.2
    rw [e]
    unfold readP
    rw [h1, h2, h3, hA.1, hA.2.1, hA.2.2, numOf_text b0]
    cases all with
    | true =>
      have e2 : numT cl ++ berT ⟨pe, len, hei, cl, true, be⟩ = numT cl := by
        unfold berT
        rw [if_pos rfl]
        exact ByteArray.append_empty
      obtain ⟨k1, k2, k3⟩ := cut_of (cut_free (free_num nd120 b3.1))
      rw [e2, k1, k3, numOf_text b3]
      have hb : be = 0 := by
        rcases hz with h | h
        · exact absurd h.1 c
        · rcases h.2 with h | h
          · exact h.2
          · exact absurd h.1 (by simp)
      subst hb
      rfl
    | false =>
      have e2 : numT cl ++ berT ⟨pe, len, hei, cl, false, be⟩ = numT cl ++ (⟨#[120]⟩ ++ numT be) := by
        unfold berT
        rw [if_neg (by simp)]
      obtain ⟨k1, k2, k3⟩ := cut_of (cut_at (p := 120) (a := numT cl) (b := numT be) (free_num nd120 b3.1) rfl)
      rw [e2, k1, k2, k3, numOf_text b3, numOf_text b4]
      rfl
theorem parts_legs {n : Nat} {f : Nat → Int} (hn : 0 < n) (h : ∀ i, i < n → In (f i) 0 99999) : Parts 44 (legsT n f) ((List.range n).map (fun i => numT (f i))) := by
  refine ⟨by intro e; have := congrArg List.length e; simp at this; omega, rfl, fun q hq => ?_⟩
  obtain ⟨i, hi, rfl⟩ := List.mem_map.1 hq
  exact free_num nd44 (h i (by simpa using hi)).1
theorem legs_not {n : Nat} {f : Nat → Int} (hn : 0 < n) (h : ∀ i, i < n → In (f i) 0 99999) : legsT n f ≠ ⟨#[45]⟩ := fun e => by
  have hp := parts_legs hn h
  rw [e] at hp
  have hq : Parts 44 ⟨#[45]⟩ [⟨#[45]⟩] := ⟨by simp, joinT_one _ _, fun q hq => by simp at hq; rw [hq]; simp⟩
  have e2 := parts_one hp hq
  have h0 : ((List.range n).map (fun i => numT (f i)))[0]? = some (numT (f 0)) := by
    rw [List.getElem?_map, List.getElem?_range hn]
    rfl
  rw [e2] at h0
  have e3 : (⟨#[45]⟩ : ByteArray) = numT (f 0) := by simpa using h0
  have : Free 45 (numT (f 0)) := free_num (by unfold Digit; decide) (h 0 hn).1
  rw [← e3] at this
  exact this (by simp)
theorem legs_back {n : Nat} {f : Nat → Int} {L : List Int} (hn : 0 < n) (h : ∀ i, i < n → In (f i) 0 99999) (hr : LegsRead (legsT n f) L) : L.length = n ∧ ∀ i, i < n → getI L i = f i := by
  rcases hr.2 with ⟨e, _⟩ | ⟨_, l, hl, rfl⟩
  · exact absurd e (legs_not hn h)
  · have e := parts_one hl (parts_legs hn h)
    subst e
    refine ⟨by simp, fun i hi => ?_⟩
    unfold getI
    rw [List.getD_eq_getElem?_getD, List.getElem?_map, List.getElem?_map, List.getElem?_range hi]
    exact numOf_text (h i hi)

end Go.Proofs.YtfbooamjddnagaaDoor

namespace Go.Proofs.YtfbooamjddnagaaDoor
open Go.RowKit

/-- The party that the specification reads; it need not be good. -/
noncomputable def readQ (s : ByteArray) : Party :=
  ⟨numOf (cutA 43 (cutA 64 s)), if cutF 43 (cutA 64 s) then (if cutF 47 (cutB 43 (cutA 64 s)) = false ∨ numOf (cutA 47 (cutB 43 (cutA 64 s))) = 0 then -1 else numOf (cutA 47 (cutB 43 (cutA 64 s)))) else 0, if cutF 43 (cutA 64 s) then numOf (cutB 47 (cutB 43 (cutA 64 s))) else 0,
    if cutF 64 s then (if numOf (cutA 120 (cutB 64 s)) = 0 then -1 else numOf (cutA 120 (cutB 64 s))) else 0, if cutF 64 s then !(cutF 120 (cutB 64 s)) else false, if cutF 64 s && cutF 120 (cutB 64 s) then numOf (cutB 120 (cutB 64 s)) else 0⟩
theorem readQ_is {s : ByteArray} (h1 : cutF 64 s = true → (readP s).cl ≠ 0) (h2 : cutF 43 (cutA 64 s) = true → cutF 47 (cutB 43 (cutA 64 s)) = true ∧ (readP s).len ≠ 0) : readQ s = readP s := by
  unfold readP at h1 h2
  dsimp only at h1 h2
  unfold readQ readP
  congr 1
  · cases c : cutF 43 (cutA 64 s) with
    | false => rfl
    | true =>
      obtain ⟨a, b⟩ := h2 c
      rw [c, if_pos rfl] at b
      rw [if_pos rfl, if_pos rfl, if_neg (fun h => h.elim (fun h => by rw [a] at h; cases h) b)]
  · cases c : cutF 64 s with
    | false => rfl
    | true =>
      have b := h1 c
      rw [c, if_pos rfl] at b
      rw [if_pos rfl, if_pos rfl, if_neg b]
theorem readQ_back {p : Party} (hp : PartyOk p) : readQ (partyT p) = p := by
  have e := readP_back hp
  rw [← e]
  have key : (cutF 64 (partyT p) = true → p.cl ≠ 0) ∧ (cutF 43 (cutA 64 (partyT p)) = true → cutF 47 (cutB 43 (cutA 64 (partyT p))) = true ∧ p.len ≠ 0) := by
    clear e
    obtain ⟨pe, len, hei, cl, all, be⟩ := p
    have hk := hp
    unfold PartyOk CarOk CabOk In at hp
    dsimp only at hp ⊢
    have b0 : 0 ≤ pe ∧ pe ≤ 99999 := by omega
    have b1 : 0 ≤ len ∧ len ≤ 99999 := by omega
    have b2 : 0 ≤ hei ∧ hei ≤ 99999 := by omega
    have ncar : ∀ q : UInt8, ¬ Digit q → q ≠ 43 → q ≠ 47 → Free q (carT ⟨pe, len, hei, cl, all, be⟩) := fun q h1 h2 h3 => by
      unfold carT
      split
      · exact free_nil q
      · exact free_app (free_one h2) (free_app (free_app (free_num h1 b1.1) (free_one h3)) (free_num h1 b2.1))
    have hf : Free 64 (numT pe ++ carT ⟨pe, len, hei, cl, all, be⟩) := free_app (free_num nd64 b0.1) (ncar 64 nd64 (by decide) (by decide))
    have hA : cutA 64 (partyT ⟨pe, len, hei, cl, all, be⟩) = numT pe ++ carT ⟨pe, len, hei, cl, all, be⟩ ∧ (cl = 0 → cutF 64 (partyT ⟨pe, len, hei, cl, all, be⟩) = false) := by
      by_cases c : cl = 0
      · have e : partyT ⟨pe, len, hei, cl, all, be⟩ = numT pe ++ carT ⟨pe, len, hei, cl, all, be⟩ := by unfold partyT; rw [if_pos c]
        rw [e]
        obtain ⟨h1, h2, h3⟩ := cut_of (cut_free hf)
        exact ⟨h1, fun _ => h3⟩
      · have e : partyT ⟨pe, len, hei, cl, all, be⟩ = (numT pe ++ carT ⟨pe, len, hei, cl, all, be⟩) ++ (⟨#[64]⟩ ++ (numT cl ++ berT ⟨pe, len, hei, cl, all, be⟩)) := by
          unfold partyT cabT
          rw [if_neg c, if_neg c]
          simp only [ByteArray.append_assoc]
        rw [e]
        obtain ⟨h1, h2, h3⟩ := cut_of (cut_at hf rfl)
        exact ⟨h1, fun h => absurd h c⟩
    constructor
    · intro h c
      rw [hA.2 c] at h
      cases h
    · rw [hA.1]
      intro h
      by_cases c : len = 0 ∧ hei = 0
      · have e : numT pe ++ carT ⟨pe, len, hei, cl, all, be⟩ = numT pe := by
          unfold carT
          rw [if_pos c]
          exact ByteArray.append_empty
        rw [e] at h
        obtain ⟨h1, _, h3⟩ := cut_of (cut_free (free_num nd43 b0.1))
        rw [h3] at h
        cases h
      · have e : carT ⟨pe, len, hei, cl, all, be⟩ = ⟨#[43]⟩ ++ (numT len ++ ⟨#[47]⟩ ++ numT hei) := by unfold carT; rw [if_neg c]
        rw [e]
        obtain ⟨h1, h2, h3⟩ := cut_of (cut_at (p := 43) (a := numT pe) (b := numT len ++ ⟨#[47]⟩ ++ numT hei) (free_num nd43 b0.1) rfl)
        obtain ⟨k1, k2, k3⟩ := cut_of (cut_at (p := 47) (s := numT len ++ ⟨#[47]⟩ ++ numT hei) (a := numT len) (b := numT hei) (free_num nd47 b1.1) (by rw [ByteArray.append_assoc]))
        rw [h2, k3]
        exact ⟨rfl, by omega⟩
  rw [e]
  have e2 := readQ_is (s := partyT p) (fun h => by rw [e]; exact key.1 h) (fun h => by rw [e]; exact key.2 h)
  rw [e2, e]

end Go.Proofs.YtfbooamjddnagaaDoor

namespace Go.Proofs.YtfbooamjddnagaaDoor
open Go.RowKit

theorem cut_found {p : UInt8} {s : ByteArray} {k : Nat} (hk : k < s.size) (he : s[k]'hk = p) (hn : ∀ j, j < k → ∀ h : j < s.size, s[j]'h ≠ p) : cutA p s = s.extract 0 k ∧ cutB p s = s.extract (k + 1) s.size ∧ cutF p s = true := by
  have hl : s.data.toList.length = s.size := Array.length_toList
  refine cut_one (cut_is p s) ⟨?_, .inl ⟨rfl, ?_⟩⟩
  · rw [sub_list]
    intro hm
    obtain ⟨i, hi⟩ := List.mem_iff_getElem?.1 hm
    rw [List.getElem?_take] at hi
    split at hi
    · rename_i hlt2
      simp at hlt2
      rw [List.drop_zero, get_at (by omega)] at hi
      exact hn i hlt2 (by omega) (by simpa using hi)
    · cases hi
  · rw [sub_list, sub_list, Nat.sub_zero, List.drop_zero, List.take_of_length_le (l := List.drop (k + 1) s.data.toList) (by rw [List.length_drop]; omega)]
    have h1 := get_at hk
    have h3 : s.data.toList.drop k = p :: s.data.toList.drop (k + 1) := by
      rw [List.drop_eq_getElem_cons (by omega)]
      rw [List.getElem?_eq_getElem (by omega)] at h1
      congr 1
    rw [← h3, List.take_append_drop]
theorem cut_none {p : UInt8} {s : ByteArray} (hn : ∀ j, j < s.size → ∀ h : j < s.size, s[j]'h ≠ p) : cutA p s = s ∧ cutB p s = ⟨#[]⟩ ∧ cutF p s = false := by
  have hl : s.data.toList.length = s.size := Array.length_toList
  refine cut_one (cut_is p s) ⟨?_, .inr ⟨rfl, rfl, rfl⟩⟩
  intro hm
  obtain ⟨i, hi⟩ := List.mem_iff_getElem?.1 hm
  rcases Nat.lt_or_ge i s.size with h | h
  · rw [get_at h] at hi
    exact hn i h h (by simpa using hi)
  · rw [List.getElem?_eq_none (by omega)] at hi
    cases hi

set_option maxHeartbeats 800000 in
set_option maxRecDepth 100000 in
theorem l11Cut_any (s : ByteArray) (p : UInt8) (w : World) (hs : s.size ≤ 1000000000000) :
    Calls Tryd.prog 80 #[.string s, .int .u8 p.toNat] w fun e w' => e = .returned (.tuple #[.string (cutA p s), .string (cutB p s), .bool (cutF p s)]) ∧ Below w.heap.size w w' := by
  go_enter Tryd.func80, Tryd.ntmps80
  go_wp2
  go_loop [7] (fun i => ∃ k : Nat, k ≤ s.size ∧ i = .int .i64 k ∧ Hid (∀ j, j < k → ∀ h : j < s.size, s[j]'h ≠ p)) (fun i => s.size - (intOf i).toNat)
  case atStart => exact ⟨0, Nat.zero_le _, rfl, fun j hj => by omega⟩
  case round =>
    obtain ⟨k, hk, rfl, HN⟩ := hrel
    by_cases hlt : k < s.size
    · by_cases he : s[k]'hlt = p
      · have HE : Hid (cutA p s = s.extract 0 k ∧ cutB p s = s.extract (k + 1) s.size ∧ cutF p s = true) := cut_found hlt he HN.out
        have e1 : ((s[k]'hlt).toNat : Int) = (p.toNat : Int) := by rw [he]
        have e2 : (s[k]'hlt).toNat = p.toNat := by rw [he]
        have ep : ((p.toNat : Int) == (p.toNat : Int)) = true := by simp
        have i1 : (0 : Int) ≤ (k : Int) := by omega
        have i2 : (k : Int) ≤ (s.size : Int) := by omega
        have i3 : (k : Int) + 1 ≤ (s.size : Int) := by omega
        have i4 : (0 : Int) ≤ (k : Int) + 1 := by omega
        have hw : IntKind.i64.wrap ((k : Int) + 1) = (k : Int) + 1 := by rw [IntKind.wrap_i64]; omega
        have ht : ((k : Int) + 1).toNat = k + 1 := by omega
        clear he HN
        go_upto_region 5 with fail
        go_quiet (fail)
        go_wp2
        exact bodyPost_ret (v := .tuple #[.string (s.extract 0 k), .string (s.extract (k + 1) s.size), .bool true]) (by simp [results, Tryd.results80, go_sem]) rfl ⟨by rw [HE.out.1, HE.out.2.1, HE.out.2.2], below_drewN (Below.refl _ _) _⟩
      · have HN1 : Hid (∀ j, j < k + 1 → ∀ h : j < s.size, s[j]'h ≠ p) := fun j hj h => by
          rcases Nat.lt_or_ge j k with h2 | h2
          · exact HN.out j h2 h
          · obtain rfl : j = k := by omega
            exact he
        have hne : (s[k]'hlt).toNat ≠ p.toNat := fun e => he (UInt8.toNat_inj.1 e)
        have hne' : (((s[k]'hlt).toNat : Int) == (p.toNat : Int)) = false := by rw [beq_eq_false_iff_ne]; omega
        clear he HN
        go_wp2
        go_round
        case rel => exact ⟨k + 1, by omega, by go_num, HN1⟩
        case measure => simp [intOf]; omega
    · obtain rfl : k = s.size := by omega
      have HE : Hid (cutA p s = s ∧ cutB p s = ⟨#[]⟩ ∧ cutF p s = false) := cut_none HN.out
      clear HN
      go_wp2
      exact bodyPost_ret (v := .tuple #[.string s, .string ⟨#[]⟩, .bool false]) (by simp [results, Tryd.results80, go_sem]) rfl ⟨by rw [HE.out.1, HE.out.2.1, HE.out.2.2], Below.refl _ _⟩

end Go.Proofs.YtfbooamjddnagaaDoor
