/-
  OWN TEXT: PlainTt, SpecTx1, InI, AsksI, TextI.
-/
import Derived.Deep.CutBlock
import Derived.Test.YtfallpinmhbemaaGreatDoorRows
import Derived.Deep.RegionHeld3
import Derived.Deep.LoopGhost
import Derived.Deep.DeepCutAuto
import Derived.Test.YtfallpinmhbemaaGreatDoorB28
import Derived.Test.YtfallpinmhbemaaGreatDoorB12
import Derived.Test.YtfallpinmhbemaaGreatDoorB08
import Derived.Test.YtfallpinmhbemaaGreatDoorB01
import Derived.Test.YtfallpinmhbemaaGreatDoorB02
namespace Go.Proofs.YtfallpinmhbemaaGreatDoor
open Go.RowKit

theorem numT_nat (u : Nat) : numT (u : Int) = ⟨(Lib.decDigits u).toArray⟩ := by
  unfold numT Lib.itoa
  rw [if_neg (by omega)]
  rfl
theorem numT_size {n : Int} (h0 : 0 ≤ n) (h1 : n ≤ 9223372036854775807) : (numT n).size ≤ 100 := by
  obtain ⟨u, rfl⟩ := Int.eq_ofNat_of_zero_le h0
  rw [numT_nat]
  show (Lib.decDigits u).toArray.size ≤ 100
  rw [List.size_toArray]
  exact dec_size u (by omega)
theorem l1Num_any {n : Int} (h0 : 0 ≤ n) (h1 : n ≤ 9223372036854775807) (w : World) : Calls Tryz.prog 47 #[.int .i64 n] w fun e w' => e = .returned (.string (numT n)) ∧ Below w.heap.size w w' := by
  obtain ⟨u, rfl⟩ := Int.eq_ofNat_of_zero_le h0
  rw [numT_nat]
  exact l1Num_nat u w (by omega)
theorem add_run (a b : ByteArray) (ha : a.size ≤ 1000000) (hb : b.size ≤ 1000000) (W : World) : (Op.stringOp .add a b).run Tryz.prog W = .ok (.string (a ++ b)) W := run_string_add_sum W a b (by omega)

def spT : ByteArray := ⟨#[32]⟩
def coT : ByteArray := ⟨#[44]⟩
def opt (b : Bool) (p : ByteArray) : List ByteArray := if b then [p] else []
theorem joinT_one (sep p : ByteArray) : joinT sep [p] = p := by
  unfold joinT
  rw [List.map_cons, List.map_nil, Lib.join_one, Lib.mk_data]
theorem join_snoc (sep : List UInt8) : ∀ (l : List (List UInt8)) (p : List UInt8), l ≠ [] → Lib.join (l ++ [p]) sep = Lib.join l sep ++ (sep ++ p)
  | [], _, h => absurd rfl h
  | x :: r, p, _ => by
    rw [List.cons_append, Lib.join_cons, Lib.join_cons]
    simp [Lib.joinTail, List.append_assoc]
theorem joinT_snoc (sep p : ByteArray) {l : List ByteArray} (h : l ≠ []) : joinT sep (l ++ [p]) = joinT sep l ++ (sep ++ p) := by
  unfold joinT
  rw [List.map_append, List.map_cons, List.map_nil, join_snoc _ _ _ (by simpa using h)]
  apply ByteArray.ext
  simp [ByteArray.data_append]
theorem joinT_le (sep : ByteArray) (hs : sep.size ≤ 1) (l : List ByteArray) (hl : ∀ p, p ∈ l → p.size ≤ 1000) : (joinT sep l).size ≤ 1001 * l.length := by
  have key : ∀ m : List ByteArray, (∀ p, p ∈ m → p.size ≤ 1000) → (joinT sep m.reverse).size ≤ 1001 * m.length := by
    intro m
    induction m with
    | nil => intro _; show (joinT sep []).size ≤ _; exact Nat.zero_le _
    | cons a r ih =>
      intro h
      have ha := h a (by simp)
      have hr := ih (fun p hp => h p (by simp [hp]))
      rw [List.reverse_cons]
      by_cases c : r.reverse = []
      · rw [c, List.nil_append, joinT_one, List.length_cons]; omega
      · rw [joinT_snoc sep a c, ByteArray.size_append, ByteArray.size_append, List.length_cons]; omega
  have := key l.reverse (fun p hp => hl p (by simpa using hp))
  rw [List.reverse_reverse, List.length_reverse] at this
  exact this

def carT (p : Party) : ByteArray := if p.len = 0 ∧ p.hei = 0 then ⟨#[]⟩ else (⟨#[43]⟩ : ByteArray) ++ (numT p.len ++ ⟨#[47]⟩ ++ numT p.hei)
def berT (p : Party) : ByteArray := if p.all = true then ⟨#[]⟩ else (⟨#[120]⟩ : ByteArray) ++ numT p.be
def cabT (p : Party) : ByteArray := if p.cl = 0 then ⟨#[]⟩ else (⟨#[64]⟩ : ByteArray) ++ numT p.cl
/-- A party's text. -/
def partyT (p : Party) : ByteArray := if p.cl = 0 then numT p.pe ++ carT p else numT p.pe ++ carT p ++ cabT p ++ berT p
/-- Numbers with a comma between. -/
def legsT (n : Nat) (f : Nat → Int) : ByteArray := joinT coT ((List.range n).map (fun i => numT (f i)))
def wordT (k : Nat) : ByteArray := match k with
  | 1 => ⟨#[113, 117, 111, 116, 101]⟩
  | 2 => ⟨#[104, 111, 108, 100]⟩
  | 3 => ⟨#[98, 111, 111, 107]⟩
  | 4 => ⟨#[99, 111, 110, 102, 105, 114, 109]⟩
  | 5 => ⟨#[97, 109, 101, 110, 100]⟩
  | 6 => ⟨#[99, 97, 110, 99, 101, 108]⟩
  | 7 => ⟨#[116, 114, 97, 110, 115, 102, 101, 114]⟩
  | 8 => ⟨#[101, 120, 112, 105, 114, 101]⟩
  | 9 => ⟨#[109, 97, 110, 105, 102, 101, 115, 116]⟩
  | _ => ⟨#[]⟩
theorem wordT_size (k : Nat) : (wordT k).size ≤ 10 := by
  unfold wordT
  split <;> decide
/-- An operation's words, the first of them, and so on. -/
def opP0 (x : OpD) : List ByteArray := [wordT x.kind.toNat]
def opP1 (x : OpD) : List ByteArray := opP0 x ++ opt (fName x.kind.toNat) (numT x.name)
def opP2 (x : OpD) : List ByteArray := opP1 x ++ opt (fOwner x.kind.toNat) x.own
def opP3 (x : OpD) : List ByteArray := opP2 x ++ opt (decide (0 < fLegs x.kind.toNat)) (legsT x.lgn x.lg)
def opP4 (x : OpD) : List ByteArray := opP3 x ++ opt (fParty x.kind.toNat) (partyT x.p)
def opP5 (x : OpD) : List ByteArray := opP4 x ++ opt (fUntil x.kind.toNat) (numT x.unt)
def opP6 (x : OpD) : List ByteArray := opP5 x ++ opt (fNow x.kind.toNat) (numT x.now)
/-- An operation's text. -/
def opT (x : OpD) : ByteArray := joinT spT (opP6 x)
/-- It has one. -/
def HasText (x : OpD) : Prop := OpOk x ∧ ∀ i, i < x.lgn → In (x.lg i) 0 99999
theorem opP0_ne (x : OpD) : opP0 x ≠ [] := by simp [opP0]
theorem opP1_ne (x : OpD) : opP1 x ≠ [] := by simp [opP1, opP0]
theorem opP2_ne (x : OpD) : opP2 x ≠ [] := by simp [opP2, opP1, opP0]
theorem opP3_ne (x : OpD) : opP3 x ≠ [] := by simp [opP3, opP2, opP1, opP0]
theorem opP4_ne (x : OpD) : opP4 x ≠ [] := by simp [opP4, opP3, opP2, opP1, opP0]
theorem opP5_ne (x : OpD) : opP5 x ≠ [] := by simp [opP5, opP4, opP3, opP2, opP1, opP0]
theorem joinT_opt {sep p : ByteArray} {l : List ByteArray} (h : l ≠ []) {b : Bool} (hb : b = true) : joinT sep (l ++ opt b p) = joinT sep l ++ (sep ++ p) := by
  subst hb
  exact joinT_snoc sep p h
theorem joinT_non {sep p : ByteArray} {l : List ByteArray} {b : Bool} (hb : b = false) : joinT sep (l ++ opt b p) = joinT sep l := by
  subst hb
  show joinT sep (l ++ []) = _
  rw [List.append_nil]

theorem len_P0 (x : OpD) : (opP0 x).length ≤ 1 := by
  simp [opP0]
theorem len_P1 (x : OpD) : (opP1 x).length ≤ 2 := by
  have := len_P0 x
  unfold opP1 opt
  rw [List.length_append]
  split <;> simp <;> omega
theorem len_P2 (x : OpD) : (opP2 x).length ≤ 3 := by
  have := len_P1 x
  unfold opP2 opt
  rw [List.length_append]
  split <;> simp <;> omega
theorem len_P3 (x : OpD) : (opP3 x).length ≤ 4 := by
  have := len_P2 x
  unfold opP3 opt
  rw [List.length_append]
  split <;> simp <;> omega
theorem len_P4 (x : OpD) : (opP4 x).length ≤ 5 := by
  have := len_P3 x
  unfold opP4 opt
  rw [List.length_append]
  split <;> simp <;> omega
theorem len_P5 (x : OpD) : (opP5 x).length ≤ 6 := by
  have := len_P4 x
  unfold opP5 opt
  rw [List.length_append]
  split <;> simp <;> omega
theorem len_P6 (x : OpD) : (opP6 x).length ≤ 7 := by
  have := len_P5 x
  unfold opP6 opt
  rw [List.length_append]
  split <;> simp <;> omega
theorem rng1 {x : OpD} {k : Nat} (h : HasText x) (_ : x.kind.toNat = k) (_ : fName k = true) : 0 ≤ x.name ∧ x.name ≤ 30 := by
  have h1 := h.1.2.2.1
  unfold NameOk at h1
  split at h1
  · exact ⟨by have := h1.1; omega, h1.2⟩
  · omega
theorem rng5 {x : OpD} {k : Nat} (h : HasText x) (_ : x.kind.toNat = k) (_ : fUntil k = true) : 0 ≤ x.unt ∧ x.unt ≤ 10000 := by
  have h1 := h.1.2.2.2.2.2.1
  rcases h1 with h1 | h1
  · omega
  · exact h1.2
theorem rng6 {x : OpD} {k : Nat} (h : HasText x) (_ : x.kind.toNat = k) (_ : fNow k = true) : 0 ≤ x.now ∧ x.now ≤ 10000 := by
  have h1 := h.1.2.2.2.2.2.2
  rcases h1 with h1 | h1
  · omega
  · exact h1.2
theorem hasLegs_of {x : OpD} {k : Nat} (h : HasText x) (hk : x.kind.toNat = k) : fParty k = true ↔ HasLegs x.kind := by
  have := h.1.1
  unfold In at this
  unfold fParty HasLegs
  rw [decide_eq_true_eq]
  omega
theorem rng3 {x : OpD} {k : Nat} (h : HasText x) (hk : x.kind.toNat = k) (hq : decide (0 < fLegs k) = true) : 0 < x.lgn ∧ x.lgn ≤ 3 := by
  have h1 := h.1.2.2.2.1
  have h2 := h.1.1
  have h3 := of_decide_eq_true hq
  unfold In at h2
  unfold LegsOkFor at h1
  unfold fLegs at h3
  by_cases c : HasLegs x.kind
  · rw [if_pos c] at h1; omega
  · rw [if_neg c] at h1
    unfold HasLegs at c
    by_cases d : x.kind = 9
    · rw [if_pos d] at h1; omega
    · rw [if_neg (by omega), if_neg (by omega)] at h3
      omega
theorem rng4 {x : OpD} {k : Nat} (h : HasText x) (hk : x.kind.toNat = k) (hq : fParty k = true) : PartyOk x.p := by
  have h1 := h.1.2.2.2.2.1
  unfold PartyOkFor at h1
  rwa [if_pos ((hasLegs_of h hk).1 hq)] at h1

end Go.Proofs.YtfallpinmhbemaaGreatDoor

namespace Go.Proofs.YtfallpinmhbemaaGreatDoor
open Go.RowKit

theorem legsT_succ (n : Nat) (f : Nat → Int) (h : 0 < n) : legsT (n + 1) f = legsT n f ++ coT ++ numT (f n) := by
  unfold legsT
  rw [List.range_succ, List.map_append, List.map_cons, List.map_nil, joinT_snoc _ _ (by
    intro e
    have := congrArg List.length e
    simp at this
    omega), ByteArray.append_assoc]
theorem legsT_one (f : Nat → Int) : legsT 1 f = numT (f 0) := joinT_one _ _
theorem legsT_size (n : Nat) (f : Nat → Int) (hn : n ≤ 3) (h : ∀ i, i < n → In (f i) 0 99999) : (legsT n f).size ≤ 3003 := by
  have := joinT_le coT (by show 1 ≤ 1; omega) ((List.range n).map (fun i => numT (f i))) (fun p hp => by
    obtain ⟨i, hi, rfl⟩ := List.mem_map.1 hp
    have h3 := h i (by simpa using hi)
    unfold In at h3
    have := numT_size (n := f i) (by omega) (by omega)
    omega)
  rw [List.length_map, List.length_range] at this
  unfold legsT
  omega

set_option maxHeartbeats 800000 in
set_option maxRecDepth 100000 in
theorem l11Legs_any (ao : Option Addr) (n cap : Nat) (f : Nat → Int) (w : World) (hn : n ≤ 3) (hz : IntsAt w ao n f) (hi : ∀ i, i < n → In (f i) 0 99999) :
    Calls Tryz.prog 48 #[.slice ao n cap] w fun e w' => e = .returned (.string (legsT n f)) ∧ Below w.heap.size w w' := by
  have HI : Hid (∀ i, i < n → In (f i) 0 99999) := hi
  clear hi
  go_enter Tryz.func48, Tryz.ntmps48
  go_wp2
  go_loopw [3, 4, 5, 8] (fun v _ _ i wr => ∃ k : Nat, k ≤ n ∧ i = .int .i64 k ∧ v = .string (legsT k f) ∧ Below w.heap.size w wr)
    (fun _ _ _ i _ => n - (intOf i).toNat)
  case atStart => exact ⟨0, Nat.zero_le _, rfl, rfl, Below.refl _ _⟩
  case round =>
    obtain ⟨k, hk, rfl, rfl, hbel⟩ := hrel
    by_cases hlt : k < n
    · obtain ⟨b, off, rfl, hc⟩ := (hz k (by omega))
      have hc' : wr.cell? ⟨b, off + k, none⟩ = some (.int .i64 (f k)) := (hbel.cell (World.block_lt_of_cell? w _ hc)).trans hc
      have hik := HI.out k hlt
      unfold In at hik
      have sn := numT_size (n := f k) (by omega) (by omega)
      have sl := legsT_size k f (by omega) (fun i h => HI.out i (by omega))
      clear hc
      by_cases h0 : k = 0
      · have dk : decide ((0 : Int) < (k : Int)) = false := decide_eq_false (by omega)
        have dk' : decide (0 < k) = false := decide_eq_false (by omega)
        have dn : ¬ 0 < k := by omega
        have EL : Hid (legsT (k + 1) f = legsT k f ++ numT (f k)) := by
          rw [h0]
          show legsT 1 f = _
          rw [legsT_one]
          show numT (f 0) = (⟨#[]⟩ : ByteArray) ++ numT (f 0)
          exact ByteArray.empty_append.symm
        have r2 := add_run (legsT k f) (numT (f k)) (by omega) (by omega)
        clear h0
        go_wp2_with fail
        refine (l1Num_any (n := f k) (by omega) (by omega) _).mono ?_
        rintro e w2 ⟨rfl, hb2⟩
        go_wp2
        go_roundw
        case rel => exact ⟨k + 1, by omega, by go_num, by rw [EL.out], after hbel hb2⟩
        case measure => simp [intOf]; omega
      · have dk : decide ((0 : Int) < (k : Int)) = true := decide_eq_true (by omega)
        have EL : Hid (legsT (k + 1) f = legsT k f ++ ⟨#[44]⟩ ++ numT (f k)) := legsT_succ k f (by omega)
        have r1 := add_run (legsT k f) ⟨#[44]⟩ (by omega) (by show 1 ≤ _; omega)
        have r2 := add_run (legsT k f ++ ⟨#[44]⟩) (numT (f k)) (by rw [ByteArray.size_append]; show _ + 1 ≤ _; omega) (by omega)
        go_wp2_with fail
        refine (l1Num_any (n := f k) (by omega) (by omega) _).mono ?_
        rintro e w2 ⟨rfl, hb2⟩
        go_wp2
        go_roundw
        case rel => exact ⟨k + 1, by omega, by go_num, by rw [EL.out], after hbel hb2⟩
        case measure => simp [intOf]; omega
    · obtain rfl : n = k := by omega
      go_wp2
      go_ret
      exact ⟨rfl, hbel⟩

set_option maxHeartbeats 1600000 in
set_option maxRecDepth 100000 in
theorem l11Party_any (p : Party) (w : World) (hp : PartyOk p) :
    Calls Tryz.prog 49 #[.agg #[.int .i64 p.pe, .int .i64 p.len, .int .i64 p.hei, .int .i64 p.cl, .bool p.all, .int .i64 p.be]] w fun e w' => e = .returned (.string (partyT p)) ∧ Below w.heap.size w w' := by
  obtain ⟨pe, len, hei, cl, all, be⟩ := p
  have HK : Hid (PartyOk ⟨pe, len, hei, cl, all, be⟩) := hp
  unfold PartyOk CarOk CabOk In at hp
  dsimp only at hp ⊢
  have s1 := numT_size (n := pe) (by omega) (by omega)
  have s2 := numT_size (n := len) (by omega) (by omega)
  have s3 := numT_size (n := hei) (by omega) (by omega)
  have s4 := numT_size (n := cl) (by omega) (by omega)
  have s5 := numT_size (n := be) (by omega) (by omega)
  have HB1 : Hid ((0 ≤ pe ∧ pe ≤ 1000) ∧ (0 ≤ len ∧ len ≤ 2000) ∧ (0 ≤ hei ∧ hei ≤ 500) ∧ (0 ≤ cl ∧ cl ≤ 3) ∧ (0 ≤ be ∧ be ≤ 4)) := by
    show (0 ≤ pe ∧ pe ≤ 1000) ∧ (0 ≤ len ∧ len ≤ 2000) ∧ (0 ≤ hei ∧ hei ≤ 500) ∧ (0 ≤ cl ∧ cl ≤ 3) ∧ (0 ≤ be ∧ be ≤ 4)
    omega
  have HCA : Hid (len = 0 → hei = 0) := by show len = 0 → hei = 0; omega
  clear hp
  have hA := heap_alloc_new w (.cells #[.int .i64 pe, .int .i64 len, .int .i64 hei, .int .i64 cl, .bool all, .int .i64 be] 25)
  have hb0 : Below w.heap.size w (w.alloc (.cells #[.int .i64 pe, .int .i64 len, .int .i64 hei, .int .i64 cl, .bool all, .int .i64 be] 25)) := push (Below.refl _ _) _
  go_enter Tryz.func49, Tryz.ntmps49
  go_upto_region 1 with fail
  generalize w.alloc (.cells #[.int .i64 pe, .int .i64 len, .int .i64 hei, .int .i64 cl, .bool all, .int .i64 be] 25) = wA at hA hb0 ⊢
  have x0 := blk_cell hA 0 _ rfl
  go_wp2_with fail
  refine (l1Num_any (n := pe) (by have := HB1.out; omega) (by have := HB1.out; omega) _).mono ?_
  rintro e w3 ⟨rfl, hb2⟩
  have hA3 := blk_below hA hb2
  have hB3 := after hb0 hb2
  clear hA hb0 hb2 x0
  have y1 := blk_cell hA3 1 _ rfl
  have hcs : (carT ⟨pe, len, hei, cl, all, be⟩).size ≤ 300 := by
    unfold carT
    split
    · exact Nat.zero_le _
    · rw [ByteArray.size_append, ByteArray.size_append, ByteArray.size_append]
      show 1 + ((numT len).size + 1 + (numT hei).size) ≤ 300
      omega
  obtain ⟨q, hq⟩ : ∃ q, q = decide ((0 : Int) < len) := ⟨_, rfl⟩
  have HQ : Hid (q = true ↔ 0 < len) := by show q = true ↔ 0 < len; rw [hq, decide_eq_true_eq]
  have hq' := hq.symm
  clear hq
  go_upto_if 9 with fail
  go_cut [3] (fun v wx => v = .string (numT pe ++ carT ⟨pe, len, hei, cl, all, be⟩) ∧ Hid (Below w3.heap.size w3 wx))
  case first =>
    clear hq' y1
    cases q with
    | false =>
      have h0 : len = 0 := by
        have h1 := HB1.out
        by_cases c : 0 < len
        · have := HQ.out.2 c; cases this
        · omega
      have ec : numT pe ++ carT ⟨pe, len, hei, cl, all, be⟩ = numT pe := by
        unfold carT
        rw [if_pos ⟨h0, HCA.out h0⟩]
        exact ByteArray.append_empty
      have EC : Hid (numT pe = numT pe ++ carT ⟨pe, len, hei, cl, all, be⟩) := ec.symm
      clear h0 ec
      go_wp2
      go_meet
      exact ⟨congrArg Value.string EC.out, Below.refl _ _⟩
    | true =>
      have h0 : 0 < len := HQ.out.1 rfl
      have ec : carT ⟨pe, len, hei, cl, all, be⟩ = ⟨#[43]⟩ ++ numT len ++ ⟨#[47]⟩ ++ numT hei := by
        unfold carT
        rw [if_neg (fun h => by have h : len = 0 := h.1; omega)]
        simp only [ByteArray.append_assoc]
      have EC : Hid (numT pe ++ (⟨#[43]⟩ ++ numT len ++ ⟨#[47]⟩ ++ numT hei) = numT pe ++ carT ⟨pe, len, hei, cl, all, be⟩) := by show _ = _; rw [ec]
      have e1 : ((⟨#[43]⟩ : ByteArray) ++ numT len).size ≤ 101 := by rw [ByteArray.size_append]; show 1 + _ ≤ _; omega
      have e2 : ((⟨#[43]⟩ : ByteArray) ++ numT len ++ ⟨#[47]⟩).size ≤ 102 := by rw [ByteArray.size_append]; show _ + 1 ≤ _; omega
      have e3 : ((⟨#[43]⟩ : ByteArray) ++ numT len ++ ⟨#[47]⟩ ++ numT hei).size ≤ 202 := by rw [ByteArray.size_append]; omega
      have r1 := add_run ⟨#[43]⟩ (numT len) (by show 1 ≤ _; omega) (by omega)
      have r2 := add_run (⟨#[43]⟩ ++ numT len) ⟨#[47]⟩ (by omega) (by show 1 ≤ _; omega)
      have r3 := add_run (⟨#[43]⟩ ++ numT len ++ ⟨#[47]⟩) (numT hei) (by omega) (by omega)
      have r4 := add_run (numT pe) (⟨#[43]⟩ ++ numT len ++ ⟨#[47]⟩ ++ numT hei) (by omega) (by omega)
      have lA := blk_lt hA3
      have y1 : ∀ g : Grown w3, g.val.cell? ⟨w.heap.size, 1, none⟩ = some (.int .i64 len) := fun g => (g.bel.cell lA).trans (blk_cell hA3 1 _ rfl)
      have y2 : ∀ g : Grown w3, g.val.cell? ⟨w.heap.size, 2, none⟩ = some (.int .i64 hei) := fun g => (g.bel.cell lA).trans (blk_cell hA3 2 _ rfl)
      clear h0 ec hcs e1 e2 e3
      have HN1 : Hid (∀ W : World, Calls Tryz.prog 47 #[.int .i64 len] W fun e w' => e = .returned (.string (numT len)) ∧ Below W.heap.size W w') := fun W => l1Num_any (by have := HB1.out; omega) (by have := HB1.out; omega) W
      have HN2 : Hid (∀ W : World, Calls Tryz.prog 47 #[.int .i64 hei] W fun e w' => e = .returned (.string (numT hei)) ∧ Below W.heap.size W w') := fun W => l1Num_any (by have := HB1.out; omega) (by have := HB1.out; omega) W
      go_upto_region 3 with fail
      refine wp_region_grow (by kernel_rfl) (by kernel_rfl) ?_
      repeat (first | go_big_quiet_skip | (go_big_quiet_want; go_big_quiet_op; first | go_big_quiet_on | (apply Exists.intro; refine ⟨fun g => ?_, ?_⟩; (focus (go_at_call 47; first | (with_reducible refine grown_call (v := .string (numT len)) (HN1.out _)) | (with_reducible refine grown_call (v := .string (numT hei)) (HN2.out _)))); go_big_quiet_on)))
      refine wpQuiet_nil ?_
      rintro _ ⟨g, rfl⟩
      go_wp2
      go_meet
      exact ⟨congrArg Value.string EC.out, g.bel⟩
  case rest =>
  obtain ⟨rfl, HW⟩ := hcut
  have hA4 := blk_below hA3 HW.out
  have hB4 := after hB3 HW.out
  clear hA3 hB3 HW hq' y1
  obtain ⟨ct, hct⟩ : ∃ z, z = carT ⟨pe, len, hei, cl, all, be⟩ := ⟨_, rfl⟩
  have HCT : Hid (ct = carT ⟨pe, len, hei, cl, all, be⟩) := hct
  rw [← hct] at hcs ⊢
  clear hct HQ q
  have y3 := blk_cell hA4 3 _ rfl
  by_cases hc : 0 < cl
  case neg =>
    have dc : decide ((0 : Int) < cl) = false := decide_eq_false hc
    have EP : Hid (numT pe ++ ct = partyT ⟨pe, len, hei, cl, all, be⟩) := by
      show numT pe ++ ct = partyT _
      unfold partyT
      rw [if_pos (by have := HB1.out; show cl = 0; omega), HCT.out]
    clear hc
    go_wp2
    go_ret
    exact ⟨congrArg (fun z => Ending.returned (Value.string z)) EP.out, hB4⟩
  case pos =>
    have dc : decide ((0 : Int) < cl) = true := decide_eq_true hc
    have hc' : ¬ cl = 0 := by omega
    have t1 : (numT pe ++ ct).size ≤ 500 := by rw [ByteArray.size_append]; omega
    have t2 : ((⟨#[64]⟩ : ByteArray) ++ numT cl).size ≤ 101 := by rw [ByteArray.size_append]; show 1 + _ ≤ _; omega
    have r1 := add_run ⟨#[64]⟩ (numT cl) (by show 1 ≤ _; omega) (by omega)
    have r2 := add_run (numT pe ++ ct) (⟨#[64]⟩ ++ numT cl) (by omega) (by omega)
    go_wp2_with fail
    refine (l1Num_any (n := cl) (by have := HB1.out; omega) (by have := HB1.out; omega) _).mono ?_
    rintro e w6 ⟨rfl, hb6⟩
    have hA6 := blk_below hA4 hb6
    have hB6 := after hB4 hb6
    clear hA4 hB4 hb6 y3
    have y4 := blk_cell hA6 4 _ rfl
    have y5 := blk_cell hA6 5 _ rfl
    cases all with
    | true =>
      have EP : Hid (numT pe ++ ct ++ (⟨#[64]⟩ ++ numT cl) = partyT ⟨pe, len, hei, cl, true, be⟩) := by
        show numT pe ++ ct ++ (⟨#[64]⟩ ++ numT cl) = partyT _
        unfold partyT cabT berT
        rw [if_neg hc', if_neg hc', if_pos rfl, HCT.out]
        exact ByteArray.append_empty.symm
      clear hc hc'
      go_wp2
      go_ret
      exact ⟨congrArg (fun z => Ending.returned (Value.string z)) EP.out, hB6⟩
    | false =>
      have EP : Hid (numT pe ++ ct ++ (⟨#[64]⟩ ++ numT cl) ++ (⟨#[120]⟩ ++ numT be) = partyT ⟨pe, len, hei, cl, false, be⟩) := by
        show numT pe ++ ct ++ (⟨#[64]⟩ ++ numT cl) ++ (⟨#[120]⟩ ++ numT be) = partyT _
        unfold partyT cabT berT
        rw [if_neg hc', if_neg hc', if_neg (by simp), HCT.out]
      clear hc hc'
      have r3 := add_run ⟨#[120]⟩ (numT be) (by show 1 ≤ _; omega) (by omega)
      have r4 := add_run (numT pe ++ ct ++ (⟨#[64]⟩ ++ numT cl)) (⟨#[120]⟩ ++ numT be) (by rw [ByteArray.size_append]; omega) (by rw [ByteArray.size_append]; show 1 + _ ≤ _; omega)
      go_wp2_with fail
      refine (l1Num_any (n := be) (by have := HB1.out; omega) (by have := HB1.out; omega) _).mono ?_
      rintro e w7 ⟨rfl, hb7⟩
      go_wp2
      go_ret
      exact ⟨congrArg (fun z => Ending.returned (Value.string z)) EP.out, after hB6 hb7⟩

end Go.Proofs.YtfallpinmhbemaaGreatDoor

namespace Go.Proofs.YtfallpinmhbemaaGreatDoor
open Go.RowKit

theorem within_yes (x lo hi : Int) (w : World) (h : In x lo hi) :
    Calls Tryz.prog 31 #[.int .i64 x, .int .i64 lo, .int .i64 hi] w fun e w' => e = .returned (.bool true) ∧ w' = w := by
  have e1 : decide (lo ≤ x) = true := by simpa using h.1
  have e2 : decide (x ≤ hi) = true := by simpa using h.2
  clear h
  go_enter Tryz.func31, Tryz.ntmps31
  go_wp2
  go_ret
  exact ⟨rfl, rfl⟩
theorem within_no (x lo hi : Int) (w : World) (h : ¬ In x lo hi) :
    Calls Tryz.prog 31 #[.int .i64 x, .int .i64 lo, .int .i64 hi] w fun e w' => e = .returned (.bool false) ∧ w' = w := by
  by_cases h1 : lo ≤ x
  · have e1 : decide (lo ≤ x) = true := by simpa using h1
    have e2 : decide (x ≤ hi) = false := by simp; exact Int.not_le.1 (fun h2 => h ⟨h1, h2⟩)
    clear h h1
    go_enter Tryz.func31, Tryz.ntmps31
    go_wp2
    go_ret
    exact ⟨rfl, rfl⟩
  · have e1 : decide (lo ≤ x) = false := by simpa using h1
    clear h h1
    go_enter Tryz.func31, Tryz.ntmps31
    go_wp2
    go_ret
    exact ⟨rfl, rfl⟩
/-- isWithin in one word: it answers whether x lies there, and the world is as it was. -/
theorem within_is (x lo hi : Int) (w : World) :
    Calls Tryz.prog 31 #[.int .i64 x, .int .i64 lo, .int .i64 hi] w fun e w' => e = .returned (.bool (decide (In x lo hi))) ∧ w' = w := by
  by_cases h : In x lo hi
  · rw [decide_eq_true h]; exact within_yes x lo hi w h
  · rw [decide_eq_false h]; exact within_no x lo hi w h

end Go.Proofs.YtfallpinmhbemaaGreatDoor

namespace Go.Proofs.YtfallpinmhbemaaGreatDoor
open Go.RowKit

theorem asksCar_any (pe len hei cl : Int) (all : Bool) (be : Int) (w : World) :
    Calls Tryz.prog 82 #[.agg #[.int .i64 pe, .int .i64 len, .int .i64 hei, .int .i64 cl, .bool all, .int .i64 be]] w fun e w' => e = .returned (.bool (decide (¬ (len = 0 ∧ hei = 0)))) ∧ Below w.heap.size w w' := by
  obtain ⟨c, hc⟩ : ∃ c, c = decide (¬ (len = 0 ∧ hei = 0)) := ⟨_, rfl⟩
  rw [← hc]
  have HC : Hid (c = decide (¬ (len = 0 ∧ hei = 0))) := hc
  clear hc
  by_cases h1 : len = 0
  · subst h1
    by_cases h2 : hei = 0
    · subst h2
      go_enter Tryz.func82, Tryz.ntmps82
      go_wp2
      go_ret
      exact ⟨by rw [HC.out]; rfl, push (Below.refl _ _) _⟩
    · have e2 : (hei != 0) = true := by simpa using h2
      have HR : Hid (c = true) := by rw [HC.out]; exact decide_eq_true (fun h => h2 h.2)
      clear h2
      go_enter Tryz.func82, Tryz.ntmps82
      go_wp2
      go_ret
      exact ⟨by rw [HR.out]; rfl, push (Below.refl _ _) _⟩
  · have e1 : (len != 0) = true := by simpa using h1
    have HR : Hid (c = true) := by rw [HC.out]; exact decide_eq_true (fun h => h1 h.1)
    clear h1
    go_enter Tryz.func82, Tryz.ntmps82
    go_wp2
    go_ret
    exact ⟨by rw [HR.out]; rfl, push (Below.refl _ _) _⟩

theorem asksCabin_any (pe len hei cl : Int) (all : Bool) (be : Int) (w : World) :
    Calls Tryz.prog 84 #[.agg #[.int .i64 pe, .int .i64 len, .int .i64 hei, .int .i64 cl, .bool all, .int .i64 be]] w fun e w' => e = .returned (.bool (decide (¬ (cl = 0 ∧ all = false ∧ be = 0)))) ∧ Below w.heap.size w w' := by
  obtain ⟨c, hc⟩ : ∃ c, c = decide (¬ (cl = 0 ∧ all = false ∧ be = 0)) := ⟨_, rfl⟩
  rw [← hc]
  have HC : Hid (c = decide (¬ (cl = 0 ∧ all = false ∧ be = 0))) := hc
  clear hc
  by_cases h1 : cl = 0
  · subst h1
    cases all with
    | true =>
      have HR : Hid (c = true) := by rw [HC.out]; exact decide_eq_true (fun h => by cases h.2.1)
      go_enter Tryz.func84, Tryz.ntmps84
      go_wp2
      go_ret
      exact ⟨by rw [HR.out]; rfl, push (Below.refl _ _) _⟩
    | false =>
      by_cases h2 : be = 0
      · subst h2
        go_enter Tryz.func84, Tryz.ntmps84
        go_wp2
        go_ret
        exact ⟨by rw [HC.out]; rfl, push (Below.refl _ _) _⟩
      · have e2 : (be != 0) = true := by simpa using h2
        have HR : Hid (c = true) := by rw [HC.out]; exact decide_eq_true (fun h => h2 h.2.2)
        clear h2
        go_enter Tryz.func84, Tryz.ntmps84
        go_wp2
        go_ret
        exact ⟨by rw [HR.out]; rfl, push (Below.refl _ _) _⟩
  · have e1 : (cl != 0) = true := by simpa using h1
    have HR : Hid (c = true) := by rw [HC.out]; exact decide_eq_true (fun h => h1 h.1)
    clear h1
    go_enter Tryz.func84, Tryz.ntmps84
    go_wp2
    go_ret
    exact ⟨by rw [HR.out]; rfl, push (Below.refl _ _) _⟩

end Go.Proofs.YtfallpinmhbemaaGreatDoor

namespace Go.Proofs.YtfallpinmhbemaaGreatDoor
open Go.RowKit

theorem areNumbers_any (ao : Option Addr) (n c : Nat) (f : Nat → Int) (w : World) (hn : n ≤ 1000000000) (hx : IntsAt w ao n f) :
    Calls Tryz.prog 15 #[.slice ao n c] w fun e w' => SaysIf (∀ i, i < n → In (f i) 0 99999) e ∧ Below w.heap.size w w' := by
  go_enter Tryz.func15, Tryz.ntmps15
  go_wp2
  go_loopw [4, 7] (fun _ vi wr => ∃ k : Nat, k ≤ n ∧ vi = .int .i64 k ∧ Hid (∀ i, i < k → In (f i) 0 99999) ∧ Below w.heap.size w wr) (fun _ vi _ => n - (intOf vi).toNat)
  case atStart => exact ⟨0, Nat.zero_le _, rfl, fun i hi => by omega, Below.refl _ _⟩
  case round =>
    obtain ⟨k, hk, rfl, HA, hbel⟩ := hrel
    by_cases hlt : k < n
    · obtain ⟨b, off, rfl, hc⟩ := hx k hlt
      have hc' : wr.cell? ⟨b, off + k, none⟩ = some (.int .i64 (f k)) := (hbel.cell (World.block_lt_of_cell? w _ hc)).trans hc
      clear hc
      by_cases hin : In (f k) 0 99999
      · go_wp2_with fail
        refine (within_yes (f k) 0 99999 _ hin).mono ?_
        rintro e w2 ⟨rfl, hb2⟩
        go_wp2
        go_roundw
        case rel => exact ⟨k + 1, by omega, by go_num, fun i hi => by
            by_cases e : i = k
            · rw [e]; exact hin
            · exact HA.out i (by omega), hb2 ▸ hbel⟩
        case measure => simp [intOf]; omega
      · go_wp2_with fail
        refine (within_no (f k) 0 99999 _ hin).mono ?_
        rintro e w2 ⟨rfl, hb2⟩
        go_wp2
        go_ret
        exact ⟨⟨false, rfl, by simp; exact ⟨k, hlt, hin⟩⟩, hb2 ▸ hbel⟩
    · obtain rfl : n = k := by omega
      go_wp2
      go_ret
      exact ⟨⟨true, rfl, by simp; exact HA.out⟩, hbel⟩

theorem pairText_any (a b : Int) (w : World) (ha : In a 0 1000000) (hb : In b 0 1000000) (hP : PowAt w) :
    Calls Tryz.prog 89 #[.int .i64 a, .int .i64 b] w fun e w' => e = .returned (.string (numT a ++ ⟨#[47]⟩ ++ numT b)) ∧ Below w.heap.size w w' := by
  unfold In at ha hb
  have s1 := numT_size (n := a) (by omega) (by omega)
  have s2 := numT_size (n := b) (by omega) (by omega)
  have r1 := add_run (numT a) ⟨#[47]⟩ (by omega) (by show 1 ≤ _; omega)
  have r2 := add_run (numT a ++ ⟨#[47]⟩) (numT b) (by rw [ByteArray.size_append]; show _ + 1 ≤ _; omega) (by omega)
  have HP : Hid (PowAt w) := hP
  clear hP
  go_enter Tryz.func89, Tryz.ntmps89
  go_wp2_with fail
  refine (itoa_any a (by omega) (by omega) _ HP.out).mono ?_
  rintro e w2 ⟨rfl, hb2⟩
  go_wp2_with fail
  refine (itoa_any b (by omega) (by omega) _ (HP.out.below hb2)).mono ?_
  rintro e w3 ⟨rfl, hb3⟩
  go_wp2
  go_ret
  exact ⟨rfl, after hb2 hb3⟩

set_option maxHeartbeats 800000 in
theorem partyText_any (p : Party) (w : World) (hp : PartyOk p) (hP : PowAt w) :
    Calls Tryz.prog 41 #[.agg #[.int .i64 p.pe, .int .i64 p.len, .int .i64 p.hei, .int .i64 p.cl, .bool p.all, .int .i64 p.be]] w fun e w' => e = .returned (.string (partyT p)) ∧ Below w.heap.size w w' := by
  obtain ⟨pe, len, hei, cl, all, be⟩ := p
  have HK : Hid (PartyOk ⟨pe, len, hei, cl, all, be⟩) := hp
  have HP : Hid (PowAt w) := hP
  unfold PartyOk CarOk CabOk In at hp
  dsimp only at hp ⊢
  have s1 := numT_size (n := pe) (by omega) (by omega)
  have s2 := numT_size (n := len) (by omega) (by omega)
  have s3 := numT_size (n := hei) (by omega) (by omega)
  have s4 := numT_size (n := cl) (by omega) (by omega)
  have s5 := numT_size (n := be) (by omega) (by omega)
  have b1 : (0 ≤ pe ∧ pe ≤ 1000) ∧ (0 ≤ len ∧ len ≤ 2000) ∧ (0 ≤ hei ∧ hei ≤ 500) ∧ (0 ≤ cl ∧ cl ≤ 3) ∧ (0 ≤ be ∧ be ≤ 4) := by omega
  have HB1 : Hid ((0 ≤ pe ∧ pe ≤ 1000) ∧ (0 ≤ len ∧ len ≤ 2000) ∧ (0 ≤ hei ∧ hei ≤ 500) ∧ (0 ≤ cl ∧ cl ≤ 3) ∧ (0 ≤ be ∧ be ≤ 4)) := b1
  clear hp hP b1
  have hA := heap_alloc_new w (.cells #[.int .i64 pe, .int .i64 len, .int .i64 hei, .int .i64 cl, .bool all, .int .i64 be] 25)
  have hb0 : Below w.heap.size w (w.alloc (.cells #[.int .i64 pe, .int .i64 len, .int .i64 hei, .int .i64 cl, .bool all, .int .i64 be] 25)) := push (Below.refl _ _) _
  go_enter Tryz.func41, Tryz.ntmps41
  go_upto_region 1 with fail
  generalize w.alloc (.cells #[.int .i64 pe, .int .i64 len, .int .i64 hei, .int .i64 cl, .bool all, .int .i64 be] 25) = wA at hA hb0 ⊢
  have x0 := blk_cell hA 0 _ rfl
  go_wp2_with fail
  refine (itoa_any pe (by have := HB1.out; omega) (by have := HB1.out; omega) _ (HP.out.below hb0)).mono ?_
  rintro e w2 ⟨rfl, hb2⟩
  have hA2 := blk_below hA hb2
  have hB2 := after hb0 hb2
  clear hA hb0 hb2 x0
  have y0 := blk_cell hA2 0 _ rfl
  have y1 := blk_cell hA2 1 _ rfl
  have y2 := blk_cell hA2 2 _ rfl
  have y3 := blk_cell hA2 3 _ rfl
  have y4 := blk_cell hA2 4 _ rfl
  have y5 := blk_cell hA2 5 _ rfl
  go_wp2_with fail
  obtain ⟨q, hq⟩ : ∃ q, q = decide (¬ (len = 0 ∧ hei = 0)) := ⟨_, rfl⟩
  have cq := asksCar_any pe len hei cl all be w2
  rw [← hq] at cq
  have HQ : Hid (q = decide (¬ (len = 0 ∧ hei = 0))) := hq
  clear hq
  refine cq.mono ?_
  clear cq
  rintro e w3 ⟨rfl, hb3⟩
  have hA3 := blk_below hA2 hb3
  have hB3 := after hB2 hb3
  clear hA2 hB2 hb3 y0 y1 y2 y3 y4 y5
  have hcs : (carT ⟨pe, len, hei, cl, all, be⟩).size ≤ 300 := by
    unfold carT
    split
    · exact Nat.zero_le _
    · rw [ByteArray.size_append, ByteArray.size_append, ByteArray.size_append]
      show 1 + ((numT len).size + 1 + (numT hei).size) ≤ 300
      omega
  go_upto_if 8 with fail
  go_cut [3] (fun v wx => v = .string (numT pe ++ carT ⟨pe, len, hei, cl, all, be⟩) ∧ Hid (Below w3.heap.size w3 wx))
  case first =>
    cases q with
    | false =>
      have hc : len = 0 ∧ hei = 0 := Classical.byContradiction (fun h => by have := HQ.out; rw [decide_eq_true h] at this; cases this)
      have ec : numT pe ++ carT ⟨pe, len, hei, cl, all, be⟩ = numT pe := by
        unfold carT
        rw [if_pos hc]
        exact ByteArray.append_empty
      have EC : Hid (numT pe = numT pe ++ carT ⟨pe, len, hei, cl, all, be⟩) := ec.symm
      clear hc ec
      go_wp2
      go_meet
      exact ⟨congrArg Value.string EC.out, Below.refl _ _⟩
    | true =>
      have hc : ¬ (len = 0 ∧ hei = 0) := of_decide_eq_true HQ.out.symm
      have ec : carT ⟨pe, len, hei, cl, all, be⟩ = ⟨#[43]⟩ ++ (numT len ++ ⟨#[47]⟩ ++ numT hei) := by unfold carT; rw [if_neg hc]
      rw [ec] at hcs
      rw [ByteArray.size_append] at hcs
      have r1 := add_run ⟨#[43]⟩ (numT len ++ ⟨#[47]⟩ ++ numT hei) (by show 1 ≤ _; omega) (by omega)
      have r2 := add_run (numT pe) (⟨#[43]⟩ ++ (numT len ++ ⟨#[47]⟩ ++ numT hei)) (by omega) (by rw [ByteArray.size_append]; omega)
      have y1 := blk_cell hA3 1 _ rfl
      have y2 := blk_cell hA3 2 _ rfl
      have EC : Hid (⟨#[43]⟩ ++ (numT len ++ ⟨#[47]⟩ ++ numT hei) = carT ⟨pe, len, hei, cl, all, be⟩) := ec.symm
      clear hc ec hcs
      go_wp2_with fail
      refine (pairText_any len hei _ ⟨by have := HB1.out; omega, by have := HB1.out; omega⟩ ⟨by have := HB1.out; omega, by have := HB1.out; omega⟩ (HP.out.below hB3)).mono ?_
      rintro e w4 ⟨rfl, hb4⟩
      go_wp2
      go_meet
      exact ⟨congrArg (fun z => Value.string (numT pe ++ z)) EC.out, hb4⟩
  case rest =>
  obtain ⟨rfl, HW⟩ := hcut
  have hA4 := blk_below hA3 HW.out
  have hB4 := after hB3 HW.out
  clear hA3 hB3 HW
  obtain ⟨ct, hct⟩ : ∃ z, z = carT ⟨pe, len, hei, cl, all, be⟩ := ⟨_, rfl⟩
  have HCT : Hid (ct = carT ⟨pe, len, hei, cl, all, be⟩) := hct
  rw [← hct] at hcs ⊢
  clear hct HQ q
  have y0 := blk_cell hA4 0 _ rfl
  have y1 := blk_cell hA4 1 _ rfl
  have y2 := blk_cell hA4 2 _ rfl
  have y3 := blk_cell hA4 3 _ rfl
  have y4 := blk_cell hA4 4 _ rfl
  have y5 := blk_cell hA4 5 _ rfl
  go_wp2_with fail
  obtain ⟨q, hq⟩ : ∃ q, q = decide (¬ (cl = 0 ∧ all = false ∧ be = 0)) := ⟨_, rfl⟩
  have cq := asksCabin_any pe len hei cl all be wc
  rw [← hq] at cq
  have HQ : Hid (q = decide (¬ (cl = 0 ∧ all = false ∧ be = 0))) := hq
  clear hq
  refine cq.mono ?_
  clear cq
  rintro e w5 ⟨rfl, hb5⟩
  have hA5 := blk_below hA4 hb5
  have hB5 := after hB4 hb5
  clear hA4 hB4 hb5 y0 y1 y2 y3 y4 y5
  cases q with
  | false =>
    have hc : cl = 0 ∧ all = false ∧ be = 0 := Classical.byContradiction (fun h => by have := HQ.out; rw [decide_eq_true h] at this; cases this)
    have EP : Hid (numT pe ++ ct = partyT ⟨pe, len, hei, cl, all, be⟩) := by
      show numT pe ++ ct = partyT _
      unfold partyT
      rw [if_pos hc.1, HCT.out]
    clear hc
    go_wp2
    go_ret
    exact ⟨congrArg (fun z => Ending.returned (Value.string z)) EP.out, hB5⟩
  | true =>
    have hc : cl ≠ 0 := fun h0 => by
      have h1 := of_decide_eq_true HQ.out.symm
      have h2 := HK.out.2.2
      rcases h2 with h2 | h2
      · exact h1 h2
      · have h3 := h2.1.1
        have h3 : 1 ≤ cl := h3
        omega
    have y3 := blk_cell hA5 3 _ rfl
    have t1 : (numT pe ++ ct).size ≤ 500 := by rw [ByteArray.size_append]; omega
    have t2 : ((⟨#[64]⟩ : ByteArray) ++ numT cl).size ≤ 101 := by rw [ByteArray.size_append]; show 1 + _ ≤ _; omega
    have r1 := add_run ⟨#[64]⟩ (numT cl) (by show 1 ≤ _; omega) (by omega)
    have r2 := add_run (numT pe ++ ct) (⟨#[64]⟩ ++ numT cl) (by omega) (by omega)
    go_wp2_with fail
    refine (itoa_any cl (by have := HB1.out; omega) (by have := HB1.out; omega) _ (HP.out.below hB5)).mono ?_
    rintro e w6 ⟨rfl, hb6⟩
    have hA6 := blk_below hA5 hb6
    have hB6 := after hB5 hb6
    clear hA5 hB5 hb6 y3
    have y4 := blk_cell hA6 4 _ rfl
    have y5 := blk_cell hA6 5 _ rfl
    cases all with
    | true =>
      have EP : Hid (numT pe ++ ct ++ (⟨#[64]⟩ ++ numT cl) = partyT ⟨pe, len, hei, cl, true, be⟩) := by
        show numT pe ++ ct ++ (⟨#[64]⟩ ++ numT cl) = partyT _
        unfold partyT cabT berT
        rw [if_neg hc, if_neg hc, if_pos rfl, HCT.out]
        exact ByteArray.append_empty.symm
      clear hc
      go_wp2
      go_ret
      exact ⟨congrArg (fun z => Ending.returned (Value.string z)) EP.out, hB6⟩
    | false =>
      have EP : Hid (numT pe ++ ct ++ (⟨#[64]⟩ ++ numT cl) ++ (⟨#[120]⟩ ++ numT be) = partyT ⟨pe, len, hei, cl, false, be⟩) := by
        show numT pe ++ ct ++ (⟨#[64]⟩ ++ numT cl) ++ (⟨#[120]⟩ ++ numT be) = partyT _
        unfold partyT cabT berT
        rw [if_neg hc, if_neg hc, if_neg (by simp), HCT.out]
      clear hc
      have r3 := add_run ⟨#[120]⟩ (numT be) (by show 1 ≤ _; omega) (by omega)
      have r4 := add_run (numT pe ++ ct ++ (⟨#[64]⟩ ++ numT cl)) (⟨#[120]⟩ ++ numT be) (by rw [ByteArray.size_append]; omega) (by rw [ByteArray.size_append]; show 1 + _ ≤ _; omega)
      go_wp2_with fail
      refine (itoa_any be (by have := HB1.out; omega) (by have := HB1.out; omega) _ (HP.out.below hB6)).mono ?_
      rintro e w7 ⟨rfl, hb7⟩
      go_wp2
      go_ret
      exact ⟨congrArg (fun z => Ending.returned (Value.string z)) EP.out, after hB6 hb7⟩

end Go.Proofs.YtfallpinmhbemaaGreatDoor
