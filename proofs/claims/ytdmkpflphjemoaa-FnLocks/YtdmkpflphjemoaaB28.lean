/-
  OWN TEXT: AskI, SpecAk.
-/
import Derived.Deep.DeepCutAuto
import Derived.Deep.CutBlock
import Derived.Test.YtdmkpflphjemoaaB27
import Derived.Test.YtdmkpflphjemoaaB22
import Derived.Test.YtdmkpflphjemoaaB14
import Derived.Test.YtdmkpflphjemoaaB17
import Derived.Test.YtdmkpflphjemoaaB09
namespace Go.Proofs.Ytdmkpflphjemoaa
open Go.RowKit

/-- AskLock asks for what it may not be asked for. -/
def AskBad (N : Nat) (K : Nat → Int) (H Q : Nat → Line) (x key : Int) : Prop := ¬ GoodL N K H Q ∨ ∃ p, IsAt N K key p ∧ NoRoom N K x key p
theorem askBad_ans {N : Nat} {K : Nat → Int} {H Q : Nat → Line} {x key : Int} {s : Bool} (h : AskBad N K H Q x key) : AskAns N K H Q x key s [] false 1 := by
  refine ⟨fun _ => ⟨rfl, rfl, rfl⟩, fun g => ?_⟩
  rcases h with h | ⟨p, hp, hr⟩
  · exact absurd g h
  · exact ⟨p, hp, fun _ => ⟨rfl, rfl, rfl⟩, fun h => absurd hr h⟩
theorem keysUp_good {N : Nat} {K : Nat → Int} {H Q : Nat → Line} (g : GoodL N K H Q) : KeysUp N K := keysUp_of (fun i hi => (g.2 i hi).1)
theorem askGood_ans {N : Nat} {K : Nat → Int} {H Q : Nat → Line} {x key : Int} {s : Bool} {code : Int} {ls : List LockW} {ok : Bool} (h : ¬ AskBad N K H Q x key) (hc : AskCode N K H Q x key code) (h1 : code ≠ 0 → ls = locksP N K H Q ∧ ok = false) (h2 : code = 0 → ∃ p, IsAt N K key p ∧ PutIs N K H Q x key s p ls ok) : AskAns N K H Q x key s ls ok code := by
  have g : GoodL N K H Q := Classical.byContradiction fun g => h (.inl g)
  obtain ⟨p, hp⟩ := isAt_ex key N (keysUp_good g)
  refine ⟨fun h3 => absurd g h3, fun _ => ⟨p, hp, fun hr => absurd (.inr ⟨p, hp, hr⟩) h, fun _ => ⟨hc, h1, fun z => ?_⟩⟩⟩
  obtain ⟨q, hq, hput⟩ := h2 z
  obtain rfl := isAt_one hp hq
  exact hput

set_option maxHeartbeats 3200000 in
set_option maxRecDepth 100000 in
theorem implAsk_any (ao : Option Addr) (N c : Nat) (K : Nat → Int) (H Q : Nat → Line) (x key : Int) (s : Bool) (w : World) (hN : N ≤ 1048576) (hs : ShortTo N H Q 1048576) (hz : LocksAt w ao N K H Q) :
    Calls Try.prog 5 #[.slice ao N c, .int .i64 x, .int .i64 key, .bool s] w fun e w' => (∃ v ls ok code, e = .returned (.tuple #[v, .bool ok, .int .i64 code]) ∧ LocksL w' w.heap.size v ls ∧ Hid (AskAns N K H Q x key s ls ok code)) ∧ Below w.heap.size w w' := by
  have HS : Hid (ShortTo N H Q 1048576) := hs
  have HZ : Hid (LocksAt w ao N K H Q) := hz
  clear hs hz
  go_enter Try.func5, Try.ntmps5
  go_upto_region 1 with fail
  go_cut [30] (fun v wx => (∃ b : Bool, v = .bool b ∧ (b = true ↔ AskBad N K H Q x key)) ∧ Below w.heap.size w wx)
  case first =>
    go_wp2_with fail
    refine (implLocks_any ao N c K H Q _ HS.out (by omega) HZ.out).mono ?_
    rintro e w1 ⟨⟨v, rfl, hv⟩, hb1⟩
    have HV : Hid (v = true ↔ GoodI N K H Q) := hv
    clear hv
    cases v with
    | false =>
      have HG : Hid (¬ GoodL N K H Q) := fun h => by have := HV.out.2 ((goodL_iff N K H Q).1 h); cases this
      go_wp2
      go_meet
      exact ⟨⟨true, rfl, ⟨fun _ => .inl HG.out, fun _ => rfl⟩⟩, hb1⟩
    | true =>
      have HGL : Hid (GoodL N K H Q) := (goodL_iff N K H Q).2 (HV.out.1 rfl)
      have h60 := HGL.out.1
      clear HV
      by_cases ht : isTask x
      · by_cases hke : isKeyI key
        · have HT : Hid (isTask x ∧ isKeyI key) := ⟨ht, hke⟩
          go_wp2_with (first
            | (go_at_call 20; refine (isTask_yes _ _ ht).mono ?_; rintro e w' ⟨rfl, hw'⟩; have hw1 := hw'.symm; subst hw1)
            | (go_at_call 21; refine (isKey_yes _ _ hke).mono ?_; rintro e w' ⟨rfl, hw'⟩; have hw1 := hw'.symm; subst hw1))
          clear ht hke
          refine (roomForKey_any ao N c K H Q key _ h60 (keysUp_good HGL.out) HT.out.2 (HZ.out.below hb1)).mono ?_
          rintro e w2 ⟨⟨p, rfl, hp⟩, hb2⟩
          have hbb := after hb1 hb2
          by_cases hr : (p < N ∧ K p = key) ∨ N < 60
          · have HNB : Hid (¬ AskBad N K H Q x key) := by
              rintro (h | ⟨q, hq, hr2⟩)
              · exact h HGL.out
              · obtain rfl := isAt_one hp.out hq
                rcases hr with h | h
                · exact hr2.2.1 h
                · have := hr2.2.2; omega
            have ef : decide ((p < N ∧ K p = key) ∨ N < 60) = true := decide_eq_true hr
            rw [ef]
            clear hr ef hb1 hb2
            go_wp2
            go_meet
            exact ⟨⟨false, rfl, ⟨fun h => (by cases h), fun h => absurd h HNB.out⟩⟩, hbb⟩
          · have HNB : Hid (AskBad N K H Q x key) := .inr ⟨p, hp.out, HT.out, fun h => hr (.inl h), by have : ¬ N < 60 := fun h => hr (.inr h); omega⟩
            have ef : decide ((p < N ∧ K p = key) ∨ N < 60) = false := decide_eq_false hr
            rw [ef]
            clear hr ef hb1 hb2
            go_wp2
            go_meet
            exact ⟨⟨true, rfl, ⟨fun _ => HNB.out, fun _ => rfl⟩⟩, hbb⟩
        · have HNB : Hid (¬ AskBad N K H Q x key) := by
            rintro (h | ⟨q, hq, hr2⟩)
            · exact h HGL.out
            · exact hke hr2.1.2
          have HKE : Hid (¬ isKeyI key) := hke
          clear hke
          go_wp2_with (first
            | (go_at_call 20; refine (isTask_yes _ _ ht).mono ?_; rintro e w' ⟨rfl, hw'⟩; have hw1 := hw'.symm; subst hw1)
            | (go_at_call 21; refine (isKey_no _ _ HKE.out).mono ?_; rintro e w' ⟨rfl, hw'⟩; have hw1 := hw'.symm; subst hw1))
          go_meet
          exact ⟨⟨false, rfl, ⟨fun h => (by cases h), fun h => absurd h HNB.out⟩⟩, hb1⟩
      · have HNB : Hid (¬ AskBad N K H Q x key) := by
          rintro (h | ⟨q, hq, hr2⟩)
          · exact h HGL.out
          · exact ht hr2.1.1
        have HT : Hid (¬ isTask x) := ht
        clear ht
        go_wp2_with (first | (go_at_call 20; refine (isTask_no _ _ HT.out).mono ?_; rintro e w' ⟨rfl, hw'⟩; have hw1 := hw'.symm; subst hw1))
        go_meet
        exact ⟨⟨false, rfl, ⟨fun h => (by cases h), fun h => absurd h HNB.out⟩⟩, hb1⟩
  case rest =>
    obtain ⟨⟨b, rfl, hbad⟩, hbc⟩ := hcut
    cases b with
    | true =>
      have HBD : Hid (AskBad N K H Q x key) := hbad.1 rfl
      clear hbad
      go_wp2
      exact bodyPost_ret (v := .tuple #[.slice none 0 0, .bool false, .int .i64 1]) (by simp [results, Try.results5, go_sem]) rfl ⟨⟨_, [], false, 1, rfl, LocksL.nil _ _, askBad_ans HBD.out⟩, hbc⟩
    | false =>
      have HNB : Hid (¬ AskBad N K H Q x key) := fun h => by have := hbad.2 h; cases this
      have HGL : Hid (GoodL N K H Q) := Classical.byContradiction fun g => HNB.out (.inl g)
      have h60 := HGL.out.1
      have HS12 : Hid (ShortTo N H Q 12) := fun i hi => by have := good_lines ((goodL_iff N K H Q).1 HGL.out) hi; omega
      clear hbad
      go_wp2_with fail
      refine (copyLocks_any ao N c K H Q _ hN HS.out (HZ.out.below hbc)).mono ?_
      rintro e w2 ⟨⟨v, hv, qv, rfl, hL⟩, hb2⟩
      obtain ⟨av, cv, rfl, _⟩ := own_form hL.row
      have HL : Hid (LocksOwn w2 w.heap.size N (.slice av N cv) K H Q hv qv) := hL.base hbc.size
      have hb3 := after hbc hb2
      clear hL hb2 hbc
      go_wp2_with fail
      refine (codeOfAsk_any av N cv K H Q x key w2 h60 HS.out (rises_of ((goodL_iff N K H Q).1 HGL.out)) (keysUp_good HGL.out) HL.out.at_).mono ?_
      rintro e w3 ⟨⟨code, rfl, hcode⟩, hb4⟩
      have HL3 : Hid (LocksOwn w3 w.heap.size N (.slice av N cv) K H Q hv qv) := HL.out.below hb4
      have hb5 := after hb3 hb4
      clear hb3 hb4
      by_cases hz : code = 0
      · subst hz
        have HC := (askCode_zero hcode.out).1 rfl
        have HCC : Hid (isTask x ∧ isKeyI key) := HC.1
        clear HC
        go_wp2_with fail
        refine (putAsked_any av N cv w.heap.size K H Q hv qv x key s w3 h60 HS12.out (keysUp_good HGL.out) HCC.out.2 HL3.out hb5.size).mono ?_
        rintro e w4 ⟨⟨v4, ok, ls, p, rfl, hL4, hput⟩, hb6⟩
        go_wp2
        refine bodyPost_ret (v := .tuple #[v4, .bool ok, .int .i64 0]) (by simp [results, Try.results5, go_sem]) rfl ⟨⟨_, ls, ok, 0, rfl, hL4, askGood_ans HNB.out hcode.out (fun h => absurd rfl h) (fun _ => ⟨p, hput.out⟩)⟩, ?_⟩
        exact hb5.trans hb6
      · have dz : (code != 0) = true := by simpa using hz
        have HNZ : Hid (code ≠ 0) := hz
        clear hz
        go_wp2
        exact bodyPost_ret (v := .tuple #[.slice av N cv, .bool false, .int .i64 code]) (by simp [results, Try.results5, go_sem]) rfl ⟨⟨_, _, false, code, rfl, HL3.out.told, askGood_ans HNB.out hcode.out (fun _ => ⟨rfl, rfl⟩) (fun h => absurd h HNZ.out)⟩, hb5⟩

end Go.Proofs.Ytdmkpflphjemoaa

namespace Go.Proofs.Ytdmkpflphjemoaa
open Go.RowKit

/-- What spec.AskLock answers. -/
def AskOut (N : Nat) (K : Nat → Int) (H Q : Nat → Line) (x key : Int) (s : Bool) (w : World) (e : Ending) (w' : World) : Prop :=
  (∃ a1 c1 ls ok code, e = .returned (.tuple #[.slice a1 ls.length c1, .bool ok, .int .i64 code]) ∧ (LocksAt w' a1 ls.length (keyF ls) (heldF ls) (queueF ls) ∧ LocksL w' w.heap.size (.slice a1 ls.length c1) ls) ∧ Hid (AskAns N K H Q x key s ls ok code)) ∧ Below w.heap.size w w'
/-- Another line of those that wait at lock p. -/
theorem LocksOwn.putWait {w w1 : World} {base N g c p : Nat} {v2 : Value} {l : Line} {K : Nat → Int} {H Q : Nat → Line} {hs qs : Nat → Value} (L : LocksOwn w base N (.slice (some ⟨g, 0, none⟩) N c) K H Q hs qs) (hp : p < N)
    (hk : Kept w w1 (fun b => (qs p).ownBlock = some b)) (ho : w1.ownsRow base 57 2 v2 l.n (askList l)) (hat : ∀ b, v2.ownBlock = some b → (qs p).ownBlock = some b ∨ w.heap.size ≤ b) :
    LocksOwn (w1.setCell ⟨g, p * 3 + 2, none⟩ v2) base N (.slice (some ⟨g, 0, none⟩) N c) K H (setF Q p l) hs (setF qs p v2) := by
  have hr1 := hk.own L.row (fun b e1 e2 => own_apart L.row (L.queue p hp) (by decide) b e1 e2)
  have hset : Kept w1 (w1.setCell ⟨g, p * 3 + 2, none⟩ v2) (fun b => b = g) := (Kept.refl w1 (fun b => b = g)).set (a := ⟨g, p * 3 + 2, none⟩) rfl _
  have go : ∀ {u : Value} {m : Line}, w1.ownsRow base 57 2 u m.n (askList m) → (w1.setCell ⟨g, p * 3 + 2, none⟩ v2).ownsRow base 57 2 u m.n (askList m) := fun h => hset.own h (fun b e1 e2 => own_apart hr1 h (by decide) g rfl (e2 ▸ e1))
  have newh : ∀ b, v2.ownBlock = some b → ∀ j, j < N → (hs j).ownBlock ≠ some b := fun b e j hj e2 => by
    rcases hat b e with h | h
    · exact L.hq j p hj hp b e2 h
    · have := ((L.held j hj).lt b e2).2; omega
  have newq : ∀ b, v2.ownBlock = some b → ∀ j, j < N → j ≠ p → (qs j).ownBlock ≠ some b := fun b e j hj hne e2 => by
    rcases hat b e with h | h
    · exact L.qq p j hp hj (fun h => hne h.symm) b h e2
    · have := ((L.queue j hj).lt b e2).2; omega
  refine ⟨own_congr (own_store hr1 (p * 3 + 2) v2) (fun j _ => ?_), fun i hi => go (hk.own (L.held i hi) (fun b e1 e2 => L.hq i p hi hp b e1 e2)), fun i hi => ?_, L.hh, fun i j hi hj b e1 e2 => ?_, fun i j hi hj hne b e1 e2 => ?_⟩
  · by_cases e : j = p * 3 + 2
    · subst e; rw [if_pos rfl, lockCell_2, setF_at]
    · rw [if_neg e]
      unfold lockCell
      by_cases e0 : j % 3 = 0
      · rw [if_pos e0, if_pos e0]
      · by_cases e1 : j % 3 = 1
        · rw [if_neg e0, if_neg e0, if_pos e1, if_pos e1]
        · rw [if_neg e0, if_neg e0, if_neg e1, if_neg e1, setF_ne (show j / 3 ≠ p by omega)]
  · by_cases e : i = p
    · subst e; rw [setF_at, setF_at]; exact go ho
    · rw [setF_ne e, setF_ne e]; exact go (hk.own (L.queue i hi) (fun b e1 e2 => L.qq i p hi hp e b e1 e2))
  · by_cases ej : j = p
    · subst ej; rw [setF_at] at e2; exact newh b e2 i hi e1
    · rw [setF_ne ej] at e2; exact L.hq i j hi hj b e1 e2
  · by_cases ei : i = p
    · subst ei
      rw [setF_at] at e1
      rw [setF_ne (fun h => hne h.symm)] at e2
      exact newq b e1 j hj (fun h => hne h.symm) e2
    · rw [setF_ne ei] at e1
      by_cases ej : j = p
      · subst ej; rw [setF_at] at e2; exact newq b e2 i hi ei e1
      · rw [setF_ne ej] at e2; exact L.qq i j hi hj hne b e1 e2
theorem own_row_free {w : World} {base e size g n cap : Nat} {xs : List Value} (h : w.ownsRow base e size (.slice (some ⟨g, 0, none⟩) n cap) n xs) (j : Nat) : w.frozen? ⟨g, j, none⟩ = false := by
  rcases h.2 with ⟨h', _⟩ | ⟨g', cap', cur, h', _, hg', _⟩
  · simp at h'
  · simp only [Value.slice.injEq, Option.some.injEq, Addr.mk.injEq, and_true, true_and] at h'
    obtain ⟨rfl, rfl⟩ := h'
    exact blk_free hg' _

theorem locksAt_drop {w : World} {b off N : Nat} {K : Nat → Int} {H Q : Nat → Line} (p : Nat) (h : LocksAt w (some ⟨b, off, none⟩) N K H Q) : LocksAt w (some ⟨b, off + p * 3, none⟩) (N - p) (fun i => K (i + p)) (fun i => H (i + p)) (fun i => Q (i + p)) := by
  intro k hk
  obtain ⟨b', off', ha, hc, qa, qc, e, h0, h1, h2, rest⟩ := h (k + p) (by omega)
  cases e
  exact ⟨b, off + p * 3, ha, hc, qa, qc, rfl, by rw [show off + p * 3 + k * 3 = off + (k + p) * 3 by omega]; exact h0, by rw [show off + p * 3 + k * 3 + 1 = off + (k + p) * 3 + 1 by omega]; exact h1, by rw [show off + p * 3 + k * 3 + 2 = off + (k + p) * 3 + 2 by omega]; exact h2, rest⟩

set_option maxHeartbeats 6400000 in
set_option maxRecDepth 100000 in
theorem specAsk_any (ao : Option Addr) (N c : Nat) (K : Nat → Int) (H Q : Nat → Line) (x key : Int) (s : Bool) (w : World) (hN : N ≤ 1048576) (hcap : N ≤ c) (hs : ShortTo N H Q 1048576) (hx : LocksAt w ao N K H Q) :
    Calls Try.prog 6 #[.slice ao N c, .int .i64 x, .int .i64 key, .bool s] w (AskOut N K H Q x key s w) := by
  have HS : Hid (ShortTo N H Q 1048576) := hs
  have HZ : Hid (LocksAt w ao N K H Q) := hx
  clear hs hx
  go_enter Try.func6, Try.ntmps6
  go_wp2_with fail
  refine (specLocks_any ao N c K H Q _ HS.out hcap HZ.out).mono ?_
  rintro e w1 ⟨⟨v, rfl, hv⟩, hb1⟩
  have HV : Hid (v = true ↔ GoodL N K H Q) := hv
  clear hv
  cases v with
  | false =>
    have HG : Hid (¬ GoodL N K H Q) := fun h => by have := HV.out.2 h; cases this
    go_wp2
    exact bodyPost_ret (v := .tuple #[.slice none 0 0, .bool false, .int .i64 1]) (by simp [results, Try.results6, go_sem]) rfl ⟨⟨none, 0, [], false, 1, rfl, ⟨fun k hk => absurd hk (Nat.not_lt_zero _), LocksL.nil _ _⟩, askBad_ans (.inl HG.out)⟩, hb1⟩
  | true =>
    have HGL : Hid (GoodL N K H Q) := HV.out.1 rfl
    have HKU : Hid (KeysUp N K) := keysUp_good HGL.out
    have h60 := HGL.out.1
    clear HV
    go_upto_block 0 with fail
    go_cut [11] (fun v wx => (∃ p : Nat, v = .int .i64 p ∧ Hid (IsAt N K key p)) ∧ w1 = wx)
    case first =>
      go_wp2_with fail
      go_loopg [11] N (fun g i wr => ∃ p : Nat, p ≤ N ∧ g = N - p ∧ i = .int .i64 p ∧ Hid (∀ j, j < p → K j < key) ∧ wr = w1)
      case atStart => exact ⟨0, Nat.zero_le _, rfl, rfl, fun j hj => by omega, rfl⟩
      case round =>
        obtain ⟨p, hp, rfl, rfl, hle, hwr⟩ := hrel
        subst hwr
        by_cases hlt : p < N
        · obtain ⟨b, off, ha, hc, qa, qc, rfl, h0, _⟩ := HZ.out p hlt
          have hb := World.block_lt_of_cell? w _ h0
          have d0 := (hb1.cell (p := ⟨b, off + p * 3, none⟩) hb).trans h0
          clear h0
          have e0 : decide ((p : Int) < (N : Int)) = true := by simp; omega
          have e1 : (p : Int) < (N : Int) := by omega
          have e2 : (0 : Int) ≤ (p : Int) := by omega
          by_cases hT : K p < key
          · have e3 : decide (K p < key) = true := by simpa using hT
            go_wp2
            go_roundg (N - (p + 1))
            case measure => omega
            case rel => exact ⟨p + 1, by omega, rfl, by go_num, fun j hj => by rcases Nat.lt_succ_iff_lt_or_eq.1 hj with h | h; exact hle.out j h; rw [h]; exact hT, rfl⟩
          · have e3 : decide (K p < key) = false := by simpa using hT
            go_wp2
            go_meet
            refine ⟨⟨p, rfl, ⟨hp, hle.out, fun j h1 h2 => ?_⟩⟩, rfl⟩
            rcases Nat.lt_or_eq_of_le h1 with h | h
            · have := HKU.out.2 p j h h2; omega
            · subst h; omega
        · have e0 : decide ((p : Int) < (N : Int)) = false := by simp; omega
          go_wp2
          go_meet
          exact ⟨⟨p, rfl, ⟨hp, hle.out, fun j h1 h2 => by omega⟩⟩, rfl⟩
    case rest =>
      obtain ⟨⟨p, rfl, hp⟩, rfl⟩ := hcut
      have HP : Hid (IsAt N K key p) := hp.out
      have hpN := hp.out.1
      clear hp
      go_upto_region 6 with fail
      go_cut [12] (fun v wx => v = .bool (decide (¬ (p < N ∧ K p = key))) ∧ w1 = wx)
      case first =>
        by_cases hlt : p < N
        · obtain ⟨b, off, ha, hc, qa, qc, rfl, h0, _⟩ := HZ.out p hlt
          have hb := World.block_lt_of_cell? w _ h0
          have d0 := (hb1.cell (p := ⟨b, off + p * 3, none⟩) hb).trans h0
          clear h0
          have e0 : ((p : Int) == (N : Int)) = false := by simpa using (show ¬ (p : Int) = (N : Int) by omega)
          have e1 : (p : Int) < (N : Int) := by omega
          have e2 : (0 : Int) ≤ (p : Int) := by omega
          by_cases hT : K p = key
          · have HD : Hid (decide (¬ (p < N ∧ K p = key)) = false) := decide_eq_false (fun h => h ⟨hlt, hT⟩)
            have e3 : (K p != key) = false := by simpa using hT
            go_wp2
            go_meet
            exact ⟨by rw [HD.out], rfl⟩
          · have HD : Hid (decide (¬ (p < N ∧ K p = key)) = true) := decide_eq_true (fun h => hT h.2)
            have e3 : (K p != key) = true := by simpa using hT
            go_wp2
            go_meet
            exact ⟨by rw [HD.out], rfl⟩
        · have HD : Hid (decide (¬ (p < N ∧ K p = key)) = true) := decide_eq_true (fun h => hlt h.1)
          obtain rfl : p = N := by omega
          go_wp2
          go_meet
          exact ⟨by rw [HD.out], rfl⟩
      case rest =>
      obtain ⟨rfl, rfl⟩ := hcut
      obtain ⟨fr, hfr⟩ : ∃ fr, fr = decide (¬ (p < N ∧ K p = key)) := ⟨_, rfl⟩
      rw [← hfr]
      have HFR : Hid (fr = true ↔ ¬ (p < N ∧ K p = key)) := by show fr = true ↔ ¬ (p < N ∧ K p = key); rw [hfr, decide_eq_true_eq]
      clear hfr
      go_upto_region 7 with fail
      go_cut [62] (fun v wx => (∃ b : Bool, v = .bool b ∧ (b = true ↔ NoRoom N K x key p)) ∧ w1 = wx)
      case first =>
        by_cases ht : isTask x
        · by_cases hke : isKey key
          · have HT : Hid (isTask x ∧ isKeyI key) := ⟨ht, hke⟩
            cases fr with
            | false =>
              have HF : Hid (p < N ∧ K p = key) := Classical.byContradiction fun h => by have := HFR.out.2 h; cases this
              go_wp2_with (first
                | (go_at_call 27; refine (l2Task_yes _ _ ht).mono ?_; rintro e w' ⟨rfl, hw'⟩; have hw2 := hw'.symm; subst hw2)
                | (go_at_call 28; refine (l2Key_yes _ _ hke).mono ?_; rintro e w' ⟨rfl, hw'⟩; have hw2 := hw'.symm; subst hw2))
              go_meet
              exact ⟨⟨false, rfl, ⟨fun h => (by cases h), fun h => absurd HF.out h.2.1⟩⟩, rfl⟩
            | true =>
              have HF : Hid (¬ (p < N ∧ K p = key)) := HFR.out.1 rfl
              by_cases h6 : N = 60
              · have e6 : ((N : Int) == 60) = true := by simp; omega
                have HR : Hid (NoRoom N K x key p) := ⟨HT.out, HF.out, h6⟩
                clear h6
                go_wp2_with (first
                  | (go_at_call 27; refine (l2Task_yes _ _ ht).mono ?_; rintro e w' ⟨rfl, hw'⟩; have hw2 := hw'.symm; subst hw2)
                  | (go_at_call 28; refine (l2Key_yes _ _ hke).mono ?_; rintro e w' ⟨rfl, hw'⟩; have hw2 := hw'.symm; subst hw2))
                go_meet
                exact ⟨⟨true, rfl, ⟨fun _ => HR.out, fun _ => rfl⟩⟩, rfl⟩
              · have e6 : ((N : Int) == 60) = false := by simpa using (show ¬ (N : Int) = 60 by omega)
                have HR : Hid (¬ NoRoom N K x key p) := fun h => h6 h.2.2
                clear h6
                go_wp2_with (first
                  | (go_at_call 27; refine (l2Task_yes _ _ ht).mono ?_; rintro e w' ⟨rfl, hw'⟩; have hw2 := hw'.symm; subst hw2)
                  | (go_at_call 28; refine (l2Key_yes _ _ hke).mono ?_; rintro e w' ⟨rfl, hw'⟩; have hw2 := hw'.symm; subst hw2))
                go_meet
                exact ⟨⟨false, rfl, ⟨fun h => (by cases h), fun h => absurd h HR.out⟩⟩, rfl⟩
          · have HR : Hid (¬ NoRoom N K x key p) := fun h => hke h.1.2
            have HKE : Hid (¬ isKey key) := hke
            clear hke
            go_wp2_with (first
              | (go_at_call 27; refine (l2Task_yes _ _ ht).mono ?_; rintro e w' ⟨rfl, hw'⟩; have hw2 := hw'.symm; subst hw2)
              | (go_at_call 28; refine (l2Key_no _ _ HKE.out).mono ?_; rintro e w' ⟨rfl, hw'⟩; have hw2 := hw'.symm; subst hw2))
            go_meet
            exact ⟨⟨false, rfl, ⟨fun h => (by cases h), fun h => absurd h HR.out⟩⟩, rfl⟩
        · have HR : Hid (¬ NoRoom N K x key p) := fun h => ht h.1.1
          have HT : Hid (¬ isTask x) := ht
          clear ht
          go_wp2_with (first | (go_at_call 27; refine (l2Task_no _ _ HT.out).mono ?_; rintro e w' ⟨rfl, hw'⟩; have hw2 := hw'.symm; subst hw2))
          go_meet
          exact ⟨⟨false, rfl, ⟨fun h => (by cases h), fun h => absurd h HR.out⟩⟩, rfl⟩
      case rest =>
      obtain ⟨⟨bn, rfl, hnr⟩, rfl⟩ := hcut
      cases bn with
      | true =>
        have HR : Hid (NoRoom N K x key p) := hnr.1 rfl
        clear hnr
        go_wp2
        exact bodyPost_ret (v := .tuple #[.slice none 0 0, .bool false, .int .i64 1]) (by simp [results, Try.results6, go_sem]) rfl ⟨⟨none, 0, [], false, 1, rfl, ⟨fun k hk => absurd hk (Nat.not_lt_zero _), LocksL.nil _ _⟩, askBad_ans (.inr ⟨p, HP.out, HR.out⟩)⟩, hb1⟩
      | false =>
      have HNB : Hid (¬ AskBad N K H Q x key) := by
        rintro (h | ⟨q, hq, hr⟩)
        · exact h HGL.out
        · obtain rfl := isAt_one HP.out hq
          have := hnr.2 hr
          cases this
      clear hnr
      go_wp2_with fail
      refine (l2OwnO_any ao N c K H Q _ hN HS.out (HZ.out.below hb1)).mono ?_
      rintro e w2 ⟨⟨v, hv, qv, rfl, hL⟩, hb2⟩
      obtain ⟨av, cv, rfl, hc1, hc2, hc3⟩ := own_form hL.row
      have HL : Hid (LocksOwn w2 w.heap.size N (.slice av N cv) K H Q hv qv) := hL.base hb1.size
      have HB2 : Hid (Below w.heap.size w w2) := after hb1 hb2
      have HAV : Hid (N ≤ cv ∧ cv ≤ 9223372036854775807 ∧ (av = none → N = 0 ∧ cv = 0)) := ⟨hc1, by unfold maxLen at hc2; omega, hc3⟩
      clear hL hb1 hb2 hc1 hc2 hc3
      go_upto_region 10 with fail
      go_cut [72] (fun v wx => (∃ b : Bool, v = .bool b ∧ (b = true ↔ ¬ (isTask x ∧ isKeyI key))) ∧ w2 = wx)
      case first =>
        by_cases ht : isTask x
        · by_cases hke : isKey key
          · have HT : Hid (isTask x ∧ isKeyI key) := ⟨ht, hke⟩
            go_wp2_with (first
              | (go_at_call 27; refine (l2Task_yes _ _ ht).mono ?_; rintro e w' ⟨rfl, hw'⟩; have hw2 := hw'.symm; subst hw2)
              | (go_at_call 28; refine (l2Key_yes _ _ hke).mono ?_; rintro e w' ⟨rfl, hw'⟩; have hw2 := hw'.symm; subst hw2))
            go_meet
            exact ⟨⟨false, rfl, ⟨fun h => (by cases h), fun h => absurd HT.out h⟩⟩, rfl⟩
          · have HT : Hid (¬ (isTask x ∧ isKeyI key)) := fun h => hke h.2
            have HKE : Hid (¬ isKey key) := hke
            clear hke
            go_wp2_with (first
              | (go_at_call 27; refine (l2Task_yes _ _ ht).mono ?_; rintro e w' ⟨rfl, hw'⟩; have hw2 := hw'.symm; subst hw2)
              | (go_at_call 28; refine (l2Key_no _ _ HKE.out).mono ?_; rintro e w' ⟨rfl, hw'⟩; have hw2 := hw'.symm; subst hw2))
            go_meet
            exact ⟨⟨true, rfl, ⟨fun _ => HT.out, fun _ => rfl⟩⟩, rfl⟩
        · have HT : Hid (¬ isTask x) := ht
          clear ht
          go_wp2_with (first | (go_at_call 27; refine (l2Task_no _ _ HT.out).mono ?_; rintro e w' ⟨rfl, hw'⟩; have hw2 := hw'.symm; subst hw2))
          go_meet
          exact ⟨⟨true, rfl, ⟨fun _ h => absurd h.1 HT.out, fun _ => rfl⟩⟩, rfl⟩
      case rest =>
      obtain ⟨⟨bn, rfl, htk⟩, rfl⟩ := hcut
      have HTOLD := HL.out.told.form
      have HTOLD : Hid _ := HTOLD
      have hlp : (locksP N K H Q).length = N := by simp [locksP]
      have HLP : Hid ((locksP N K H Q).length = N) := hlp
      clear hlp
      cases bn with
      | true =>
        have HT : Hid (¬ (isTask x ∧ isKeyI key)) := htk.1 rfl
        clear htk
        go_wp2
        obtain ⟨a1, c1, e1, hat⟩ := HTOLD.out
        exact bodyPost_ret (v := .tuple #[.slice av N cv, .bool false, .int .i64 2]) (by simp [results, Try.results6, go_sem]) rfl ⟨⟨a1, c1, _, false, 2, by rw [e1], hat, askGood_ans HNB.out ⟨fun _ => rfl, fun h => absurd h HT.out, fun h => absurd h HT.out, fun h => absurd h HT.out⟩ (fun _ => ⟨rfl, rfl⟩) (fun h => by cases h)⟩, HB2.out⟩
      | false =>
      have HT : Hid (isTask x ∧ isKeyI key) := Classical.byContradiction fun h => by have := htk.2 h; cases this
      clear htk
      go_wp2_with fail
      refine (l2Waits_any av N cv K H Q x _ hN HS.out HL.out.at_).mono ?_
      rintro e w3 ⟨hlo, hb3⟩
      have HB3 : Hid (Below w.heap.size w w3) := after HB2.out hb3
      have HL3 : Hid (LocksOwn w3 w.heap.size N (.slice av N cv) K H Q hv qv) := HL.out.below hb3
      clear hb3
      rcases hlo with ⟨i, hwi, rfl⟩ | ⟨hno, rfl⟩
      · have HW : Hid (¬ noWait N Q x) := fun h => noWait_not h hwi
        have di : decide ((0 : Int) ≤ (i : Int)) = true := by simp
        clear hwi HTOLD
        go_wp2
        obtain ⟨a1, c1, e1, hat⟩ := HL3.out.told.form
        exact bodyPost_ret (v := .tuple #[.slice av N cv, .bool false, .int .i64 4]) (by simp [results, Try.results6, go_sem]) rfl ⟨⟨a1, c1, _, false, 4, by rw [e1], hat, askGood_ans HNB.out ⟨fun h => absurd HT.out h, fun _ _ => rfl, fun _ h => absurd h HW.out, fun _ h => absurd h HW.out⟩ (fun _ => ⟨rfl, rfl⟩) (fun h => by cases h)⟩, HB3.out⟩
      · have HW : Hid (noWait N Q x) := hno
        clear hno HTOLD
        go_upto_region 14 with fail
        go_cut [81, 82, 83] (fun v81 v82 v83 wx => (∃ ad cd, v81 = .slice ad (N - p) cd ∧ LocksAt w3 ad (N - p) (fun i => K (i + p)) (fun i => H (i + p)) (fun i => Q (i + p))) ∧ v82 = .int .i64 ((N - p : Nat) : Int) ∧ v83 = .int .i64 0 ∧ w3 = wx)
        case first =>
          have hcv := HAV.out.1
          have hcw := HAV.out.2.1
          have i1 : (p : Int) ≤ (N : Int) := by omega
          have i2 : (0 : Int) ≤ (p : Int) := by omega
          have i3 : (N : Int) ≤ (cv : Int) := by omega
          have i4 : (p : Int) ≤ (cv : Int) := by omega
          cases av with
          | none =>
            obtain ⟨rfl, rfl⟩ := HAV.out.2.2 rfl
            obtain rfl : p = 0 := by omega
            go_wp2
            go_meet
            exact ⟨⟨_, _, rfl, fun k hk => absurd hk (Nat.not_lt_zero _)⟩, rfl, rfl, rfl⟩
          | some ad =>
            obtain ⟨g, rfl⟩ : ∃ g, ad = ⟨g, 0, none⟩ := by
              rcases HL3.out.row.2 with ⟨h', _⟩ | ⟨g', cap', cur, h', _⟩
              · simp at h'
              · simp only [Value.slice.injEq, Option.some.injEq] at h'
                exact ⟨g', h'.1⟩
            by_cases hcp : cv = p
            · obtain rfl : N = p := by omega
              have HE : Hid (∀ ad, LocksAt w3 ad (N - N) (fun i => K (i + N)) (fun i => H (i + N)) (fun i => Q (i + N))) := fun ad k hk => by omega
              go_wp2
              go_meet
              exact ⟨⟨_, _, (by rw [Nat.sub_self]), HE.out _⟩, (by rw [Nat.sub_self]; rfl), rfl, rfl⟩
            · have HD : Hid (LocksAt w3 (some ⟨g, 0 + p * 3, none⟩) (N - p) (fun i => K (i + p)) (fun i => H (i + p)) (fun i => Q (i + p))) := locksAt_drop p HL3.out.at_
              rw [Nat.zero_add] at HD
              go_wp2
              go_meet
              exact ⟨⟨_, _, rfl, HD.out⟩, by first | rfl | (congr 1; omega), rfl, rfl⟩
        case rest =>
        obtain ⟨⟨ad, cd, rfl, hdr⟩, rfl, rfl, rfl⟩ := hcut
        have HDR : Hid (LocksAt w3 ad (N - p) (fun i => K (i + p)) (fun i => H (i + p)) (fun i => Q (i + p))) := hdr
        clear hdr
        go_upto_block 2 with fail
        go_cut [11] (fun v11 wx => v11 = .int .i64 p ∧ Hid (¬ HoldsOn N K H x key) ∧ Below w3.heap.size w3 wx)
        case first =>
          go_wp2_with fail
          go_loopg [83] (N - p) (fun g i wr => ∃ k : Nat, k ≤ N - p ∧ g = N - p - k ∧ i = .int .i64 k ∧ Hid (∀ j, j < k → ¬ inLine (H (j + p)) x) ∧ Below w3.heap.size w3 wr)
          case atStart => exact ⟨0, Nat.zero_le _, rfl, rfl, fun j hj => by omega, Below.refl _ _⟩
          case round =>
            obtain ⟨k, hk, rfl, rfl, hle, hbel⟩ := hrel
            by_cases hlt : k < N - p
            · obtain ⟨b, off, ha, hc, qa, qc, rfl, h0, h1, h2, h3, _⟩ := HDR.out k hlt
              have hb := World.block_lt_of_cell? w3 _ h0
              have d0 := (hbel.cell (p := ⟨b, off + k * 3, none⟩) hb).trans h0
              have d1 := (hbel.cell (p := ⟨b, off + k * 3 + 1, none⟩) hb).trans h1
              have d2 := (hbel.cell (p := ⟨b, off + k * 3 + 2, none⟩) hb).trans h2
              have s1 : (H (k + p)).n ≤ 1048576 := (HS.out (k + p) (by omega)).1
              have HLN : Hid (LineAt w3 ha (H (k + p))) := h3
              clear h0 h1 h2 h3
              have hpb : Below wr.heap.size wr (wr.alloc (.cells #[.int .i64 (K (k + p)), .slice ha (H (k + p)).n hc, .slice qa (Q (k + p)).n qc] 60)) := push (Below.refl _ _) _
              go_wp2_with fail
              generalize wr.alloc (.cells #[.int .i64 (K (k + p)), .slice ha (H (k + p)).n hc, .slice qa (Q (k + p)).n qc] 60) = Y at hpb ⊢
              have hbY := after hbel hpb
              by_cases hin : inLine (H (k + p)) x
              · refine (l2In_yes ha (H (k + p)).n hc (H (k + p)) x Y rfl s1 (HLN.out.below hbY) hin).mono ?_
                rintro e w4 ⟨j, rfl, _, hb4⟩
                have HO : Hid (HoldsOn N K H x key) := ⟨k + p, by omega, HP.out.2.2 (k + p) (by omega) (by omega), hin⟩
                have dj : decide ((0 : Int) ≤ (j : Int)) = true := by simp
                have hb5 := after hbY hb4
                clear hin hb4 hbY hpb hbel d0 d1 d2
                go_wp2
                obtain ⟨a1, c1, e1, hat⟩ := (HL3.out.below hb5).told.form
                exact bodyPost_ret (v := .tuple #[.slice av N cv, .bool false, .int .i64 3]) (by simp [results, Try.results6, go_sem]) rfl ⟨⟨a1, c1, _, false, 3, by rw [e1], hat, askGood_ans HNB.out ⟨fun h => absurd HT.out h, fun _ h => absurd HW.out h, fun _ _ _ => rfl, fun _ _ h => absurd HO.out h⟩ (fun _ => ⟨rfl, rfl⟩) (fun h => by cases h)⟩, after HB3.out hb5⟩
              · refine (l2In_no ha (H (k + p)).n hc (H (k + p)) x Y rfl s1 (HLN.out.below hbY) hin).mono ?_
                rintro e w4 ⟨rfl, hb4⟩
                have HI : Hid (¬ inLine (H (k + p)) x) := hin
                have hb5 := after hbY hb4
                clear hin hb4 hbY hpb hbel d0 d1 d2
                go_wp2
                go_roundg (N - p - (k + 1))
                case measure => omega
                case rel => exact ⟨k + 1, by omega, rfl, by go_num, fun j hj => by
                  rcases Nat.lt_succ_iff_lt_or_eq.1 hj with h | h
                  · exact hle.out j h
                  · rw [h]; exact HI.out, hb5⟩
            · obtain rfl : k = N - p := by omega
              go_wp2
              go_meet
              refine ⟨rfl, ?_, hbel⟩
              rintro ⟨i, hi, h1, h2⟩
              by_cases hip : i < p
              · have := HP.out.2.1 i hip; omega
              · have h3 := hle.out (i - p) (by omega)
                rw [show i - p + p = i by omega] at h3
                exact h3 h2
        case rest =>
        obtain ⟨rfl, hnh, hb4⟩ := hcut
        obtain ⟨w4, hw4⟩ : ∃ w4, w4 = wc := ⟨_, rfl⟩
        subst hw4
        have HA0 : Hid (AskCode N K H Q x key 0) := ⟨fun h => absurd HT.out h, fun _ h => absurd HW.out h, fun _ _ h => absurd h hnh.out, fun _ _ _ => rfl⟩
        have HB4 : Hid (Below w.heap.size w w4) := after HB3.out hb4
        have HL4 : Hid (LocksOwn w4 w.heap.size N (.slice av N cv) K H Q hv qv) := HL3.out.below hb4
        have hXb : Below w4.heap.size w4 (w4.alloc (.cells #[.int .i64 x, .bool s] 57)) := push (Below.refl _ _) _
        have bA := heap_alloc_new w4 (.cells #[.int .i64 x, .bool s] 57)
        clear hb4 hnh HDR HL HB2 HB3 HL3
        obtain ⟨q0, qi, qz0, qz1, qz2⟩ := info_parts Try.infoAsked
        obtain ⟨j0, ji, jz0, jz1, jz2⟩ := info_parts Try.infoLock
        have hcv := HAV.out.1
        have hcw := HAV.out.2.1
        cases fr with
        | true =>
          have HF : Hid (¬ (p < N ∧ K p = key)) := HFR.out.1 rfl
          go_upto_region 23 with fail
          generalize w4.alloc (.cells #[.int .i64 x, .bool s] 57) = X at hXb bA ⊢
          have HLX : Hid (LocksOwn X w.heap.size N (.slice av N cv) K H Q hv qv) := HL4.out.below hXb
          have HBX : Hid (Below w.heap.size w X) := after HB4.out hXb
          have HX4 : Hid (Below w4.heap.size w4 X) := hXb
          have HBA : Hid (X.heap[w4.heap.size]? = some (.cells #[.int .i64 x, .bool s] 57 (0, 0))) := bA
          have hlw : w4.heap.size < X.heap.size := blk_lt bA
          obtain ⟨row, hrow⟩ : ∃ row, row = (List.range (N * 3)).map (lockCell K hv qv) := ⟨_, rfl⟩
          have HROW : Hid (row = (List.range (N * 3)).map (lockCell K hv qv)) := hrow
          have hrl : row.length = N * 3 := by rw [hrow]; simp
          have HONE : Hid (∀ u ∈ row, u.oneCell' = true) := by show ∀ u ∈ row, u.oneCell' = true; rw [hrow]; exact lockRow_one HLX.out
          have HCE : Hid (∀ w', Below X.heap.size X w' → ∀ g, av = some ⟨g, 0, none⟩ → ∀ j u, row[j]? = some u → w'.cell? ⟨g, j, none⟩ = some u) := fun w' hb g e j u hj => by
            subst e
            have hj' : j < N * 3 := by rw [← hrl]; exact (List.getElem?_eq_some_iff.1 hj).1
            rw [(own_below hb HLX.out.row).cellAt j hj', ← HROW.out]
            exact hj
          have HL1 : Hid ((row.take (p * 3)).length = p * 3) := by show (row.take (p * 3)).length = p * 3; rw [List.length_take, hrl]; omega
          have HL3' : Hid ((row.drop (p * 3)).length = (N - p) * 3) := by show (row.drop (p * 3)).length = (N - p) * 3; rw [List.length_drop, hrl]; omega
          have HO1 : Hid (∀ u ∈ row.take (p * 3), u.oneCell' = true) := fun u hu => HONE.out u (List.mem_of_mem_take hu)
          have HO3 : Hid (∀ u ∈ row.drop (p * 3), u.oneCell' = true) := fun u hu => HONE.out u (List.mem_of_mem_drop hu)
          have HNIL : Hid (X.ownsRow X.heap.size 60 3 (.slice none 0 0) 0 []) := World.ownsRow_nil _ _ _ _
          have i1 : (p : Int) ≤ (N : Int) := by omega
          have i2 : (0 : Int) ≤ (p : Int) := by omega
          have i3 : (N : Int) ≤ (cv : Int) := by omega
          have i4 : (p : Int) ≤ (cv : Int) := by omega
          have y0 := blk_cell bA 0 _ rfl
          have y1 := blk_cell bA 1 _ rfl
          clear hrow bA hXb
          have FIN : Hid (∀ w5 a5 c5 w6 a6 c6 w7 v7, w5.ownsRow X.heap.size 60 3 (.slice a5 p c5) p (row.take (p * 3)) → X.grownBy w5 none → w6.ownsRow X.heap.size 60 3 (.slice a6 (p + 1) c6) (p + 1) (row.take (p * 3) ++ [.int .i64 key, .slice (some ⟨w5.heap.size, 0, none⟩) 1 1, .slice none 0 0]) → ((w5.alloc (.cells #[.int .i64 x, .bool s] 57)).alloc (.cells #[.int .i64 key, .slice (some ⟨w5.heap.size, 0, none⟩) 1 1, .slice none 0 0] 60)).grownBy w6 (Value.slice a5 p c5).ownBlock → w7.ownsRow X.heap.size 60 3 v7 (p + 1 + (N - p)) (row.take (p * 3) ++ [.int .i64 key, .slice (some ⟨w5.heap.size, 0, none⟩) 1 1, .slice none 0 0] ++ row.drop (p * 3)) → w6.grownBy w7 (Value.slice a6 (p + 1) c6).ownBlock → ∃ hs' qs', LocksOwn w7 w.heap.size (N + 1) v7 (insF K p key) (insF H p (lineOf [(x, s)])) (insF Q p (lineOf [])) hs' qs' ∧ Below w.heap.size w w7) := fun w5 a5 c5 w6 a6 c6 w7 v7 o5 g5 o6 g6 o7 g7 => by
            have hb5 : Below X.heap.size X w5 := grown_below g5
            have oA : ((w5.alloc (.cells #[.int .i64 x, .bool s] 57)).alloc (.cells #[.int .i64 key, .slice (some ⟨w5.heap.size, 0, none⟩) 1 1, .slice none 0 0] 60)).ownsRow w5.heap.size 57 2 (.slice (some ⟨w5.heap.size, 0, none⟩) 1 1) 1 (askList (lineOf [(x, s)])) := by
              rw [askList_lineOf]
              exact ⟨rfl, .inr ⟨w5.heap.size, 1, #[.int .i64 x, .bool s], rfl, Nat.le_refl _, blk_alloc (heap_alloc_new w5 _) _, Nat.le_refl _, by unfold maxLen; omega, rfl, rfl⟩⟩
            have o5' := (o5.alloc (.cells #[.int .i64 x, .bool s] 57)).alloc (.cells #[.int .i64 key, .slice (some ⟨w5.heap.size, 0, none⟩) 1 1, .slice none 0 0] 60)
            have oA6 := (kept_by g6).own oA (fun b e1 e2 => own_apart o5' oA (by decide) b e2 e1)
            have oA7 := (kept_by g7).own oA6 (fun b e1 e2 => own_apart o6 oA6 (by decide) b e2 e1)
            have hb6 : Below X.heap.size X w6 := (push (push hb5 _) _).grown g6 (by have := hb5.size; simp; omega) (fun b e => (o5.lt b e).1)
            have hb7 : Below X.heap.size X w7 := hb6.grown g7 hb6.size (fun b e => (o6.lt b e).1)
            have L7 := HLX.out.below hb7
            have hs5 := hb5.size
            rw [show p + 1 + (N - p) = N + 1 by omega] at o7
            have ho : w7.ownsRow w.heap.size 60 3 v7 (N + 1) (insK ((List.range (N * 3)).map (lockCell K hv qv)) p key (.slice (some ⟨w5.heap.size, 0, none⟩) 1 1) (.slice none 0 0)) := by
              rw [← HROW.out]
              exact own_base o7 HBX.out.size
            exact ⟨_, _, L7.ins (l := lineOf [(x, s)]) hpN (own_base oA7 (Nat.le_trans HBX.out.size hs5)) (fun b h1 h2 => by have := (World.ownsRow.lt oA b h1).1; have := (HLX.out.lim b h2).2; omega) (World.grownBy.refl _ _) ho, after HBX.out hb7⟩
          cases av with
          | none =>
            obtain ⟨rfl, rfl⟩ := HAV.out.2.2 rfl
            obtain rfl : p = 0 := by omega
            go_wp2_with (first
              | (at_builtin; refine wpList_append_any _ (by rfl) (.tmp 98) (.tmp 101) 23 (by rfl) X.heap.size 60 j0 (.agg #[.int .i64 0, .slice none 0 0, .slice none 0 0]) 3 56 Try.underlying23 ji jz0 jz1 jz2 rfl (by decide) _ 0 [] (by rfl) HNIL.out none 0 0 (row.take (0 * 3)) (by rfl) (fun _ => ⟨rfl, rfl⟩) HL1.out (fun _ h => by cases h) HO1.out (by unfold maxLen; omega) (by omega) (Nat.le_refl _) ?_; intro v5 w5 ho5 hg5; rw [Nat.zero_add, List.nil_append] at ho5; obtain ⟨a5, c5, rfl, _⟩ := own_form ho5; have hb5 : Below X.heap.size X w5 := (grown_below hg5); have z5 := blk_below HBA.out hb5; have z0 := blk_cell z5 0 _ rfl; have z1 := blk_cell z5 1 _ rfl; have hs5 := hb5.size)
              | (at_builtin; refine wpList_append_any _ (by rfl) (.tmp 103) (.tmp 108) 23 (by rfl) X.heap.size 60 j0 (.agg #[.int .i64 0, .slice none 0 0, .slice none 0 0]) 3 56 Try.underlying23 ji jz0 jz1 jz2 rfl (by decide) _ 0 (row.take (0 * 3)) (by rfl) ((ho5.alloc _).alloc _) (some ⟨w5.heap.size + 1, 0, none⟩) 1 1 [.int .i64 key, .slice (some ⟨w5.heap.size, 0, none⟩) 1 1, .slice none 0 0] (by rfl) (fun h => (by cases h)) (by rfl) (fun ad e => by cases e; exact World.news_of_block (new_at2 w5 _ _)) (by intro u hu; simp at hu; rcases hu with rfl | rfl | rfl <;> rfl) (by unfold maxLen; omega) (by omega) (by simp; omega) ?_; intro v6 w6 ho6 hg6; obtain ⟨a6, c6, rfl, _⟩ := own_form ho6; have hb6 : Below X.heap.size X w6 := (push (push hb5 _) _).grown hg6 (by simp; omega) (fun b e => (World.ownsRow.lt ho5 b e).1); have hs6 := hb6.size)
              | (at_builtin; refine wpList_append_any _ (by rfl) (.tmp 110) (.tmp 113) 23 (by rfl) X.heap.size 60 j0 (.agg #[.int .i64 0, .slice none 0 0, .slice none 0 0]) 3 56 Try.underlying23 ji jz0 jz1 jz2 rfl (by decide) _ (0 + 1) _ (by rfl) ho6 none 0 0 (row.drop (0 * 3)) (by rfl) (fun _ => ⟨rfl, rfl⟩) HL3'.out (fun _ h => by cases h) HO3.out (by unfold maxLen; omega) (by omega) hs6 ?_; intro v7 w7 ho7 hg7))
            (try rw [Exit.noGoto_ret])
            obtain ⟨hs', qs', hF, hbF⟩ := FIN.out w5 a5 c5 w6 a6 c6 w7 v7 ho5 hg5 ho6 hg6 ho7 hg7
            refine bodyPost_ret (v := .tuple #[v7, .bool true, .int .i64 0]) (by simp [results, Try.results6, go_sem]) rfl ?_
            obtain ⟨a1, c1, e1, hat⟩ := hF.told.form
            exact ⟨⟨a1, c1, _, true, 0, by rw [e1], hat, askGood_ans HNB.out HA0.out (fun h => absurd rfl h) (fun _ => ⟨0, HP.out, .fresh HF.out⟩)⟩, hbF⟩
          | some ad =>
            obtain ⟨g, rfl⟩ : ∃ g, ad = ⟨g, 0, none⟩ := by
              rcases HL4.out.row.2 with ⟨h', _⟩ | ⟨g', cap', cur, h', _⟩
              · simp at h'
              · simp only [Value.slice.injEq, Option.some.injEq] at h'
                exact ⟨g', h'.1⟩
            have HC1 : Hid (∀ ad, some (⟨g, 0, none⟩ : Addr) = some ad → ∀ j u, (row.take (p * 3))[j]? = some u → X.cell? (ad.add j) = some u) := fun ad e j u h => by
              cases e
              rw [Addr.add_lit, Nat.zero_add]
              rw [List.getElem?_take] at h
              split at h
              · exact HCE.out X (Below.refl _ _) g rfl j u h
              · cases h
            by_cases hcp : cv = p
            · obtain rfl : N = p := by omega
              subst hcp
              go_wp2_with (first
                | (at_builtin; refine wpList_append_any _ (by rfl) (.tmp 98) (.tmp 101) 23 (by rfl) X.heap.size 60 j0 (.agg #[.int .i64 0, .slice none 0 0, .slice none 0 0]) 3 56 Try.underlying23 ji jz0 jz1 jz2 rfl (by decide) _ 0 [] (by rfl) HNIL.out (some ⟨g, 0, none⟩) cv cv (row.take (cv * 3)) (by rfl) (fun h => by cases h) HL1.out HC1.out HO1.out (by unfold maxLen; omega) (by omega) (Nat.le_refl _) ?_; intro v5 w5 ho5 hg5; rw [Nat.zero_add, List.nil_append] at ho5; obtain ⟨a5, c5, rfl, _⟩ := own_form ho5; have hb5 : Below X.heap.size X w5 := (grown_below hg5); have z5 := blk_below HBA.out hb5; have z0 := blk_cell z5 0 _ rfl; have z1 := blk_cell z5 1 _ rfl; have hs5 := hb5.size)
                | (at_builtin; refine wpList_append_any _ (by rfl) (.tmp 103) (.tmp 108) 23 (by rfl) X.heap.size 60 j0 (.agg #[.int .i64 0, .slice none 0 0, .slice none 0 0]) 3 56 Try.underlying23 ji jz0 jz1 jz2 rfl (by decide) _ cv (row.take (cv * 3)) (by rfl) ((ho5.alloc _).alloc _) (some ⟨w5.heap.size + 1, 0, none⟩) 1 1 [.int .i64 key, .slice (some ⟨w5.heap.size, 0, none⟩) 1 1, .slice none 0 0] (by rfl) (fun h => (by cases h)) (by rfl) (fun ad e => by cases e; exact World.news_of_block (new_at2 w5 _ _)) (by intro u hu; simp at hu; rcases hu with rfl | rfl | rfl <;> rfl) (by unfold maxLen; omega) (by omega) (by simp; omega) ?_; intro v6 w6 ho6 hg6; obtain ⟨a6, c6, rfl, _⟩ := own_form ho6; have hb6 : Below X.heap.size X w6 := (push (push hb5 _) _).grown hg6 (by simp; omega) (fun b e => (World.ownsRow.lt ho5 b e).1); have hs6 := hb6.size)
                | (at_builtin; refine wpList_append_any _ (by rfl) (.tmp 110) (.tmp 113) 23 (by rfl) X.heap.size 60 j0 (.agg #[.int .i64 0, .slice none 0 0, .slice none 0 0]) 3 56 Try.underlying23 ji jz0 jz1 jz2 rfl (by decide) _ (cv + 1) _ (by rfl) ho6 (some ⟨g, 0, none⟩) 0 0 (row.drop (cv * 3)) (by rfl) (fun h => by cases h) (by rw [HL3'.out, Nat.sub_self]) (fun _ _ j u h => absurd ((List.getElem?_eq_some_iff.1 h).1) (by rw [HL3'.out]; omega)) HO3.out (by unfold maxLen; omega) (by omega) hs6 ?_; intro v7 w7 ho7 hg7))
              (try rw [Exit.noGoto_ret])
              obtain ⟨hs', qs', hF, hbF⟩ := FIN.out w5 a5 c5 w6 a6 c6 w7 v7 ho5 hg5 ho6 hg6 (by rw [Nat.sub_self]; exact ho7) hg7
              refine bodyPost_ret (v := .tuple #[v7, .bool true, .int .i64 0]) (by simp [results, Try.results6, go_sem]) rfl ?_
              obtain ⟨a1, c1, e1, hat⟩ := hF.told.form
              exact ⟨⟨a1, c1, _, true, 0, by rw [e1], hat, askGood_ans HNB.out HA0.out (fun h => absurd rfl h) (fun _ => ⟨cv, HP.out, .fresh HF.out⟩)⟩, hbF⟩
            · skip
              go_wp2_with (first
                | (at_builtin; refine wpList_append_any _ (by rfl) (.tmp 98) (.tmp 101) 23 (by rfl) X.heap.size 60 j0 (.agg #[.int .i64 0, .slice none 0 0, .slice none 0 0]) 3 56 Try.underlying23 ji jz0 jz1 jz2 rfl (by decide) _ 0 [] (by rfl) HNIL.out (some ⟨g, 0, none⟩) p cv (row.take (p * 3)) (by rfl) (fun h => by cases h) HL1.out HC1.out HO1.out (by unfold maxLen; omega) (by omega) (Nat.le_refl _) ?_; intro v5 w5 ho5 hg5; rw [Nat.zero_add, List.nil_append] at ho5; obtain ⟨a5, c5, rfl, _⟩ := own_form ho5; have hb5 : Below X.heap.size X w5 := (grown_below hg5); have z5 := blk_below HBA.out hb5; have z0 := blk_cell z5 0 _ rfl; have z1 := blk_cell z5 1 _ rfl; have hs5 := hb5.size)
                | (at_builtin; refine wpList_append_any _ (by rfl) (.tmp 103) (.tmp 108) 23 (by rfl) X.heap.size 60 j0 (.agg #[.int .i64 0, .slice none 0 0, .slice none 0 0]) 3 56 Try.underlying23 ji jz0 jz1 jz2 rfl (by decide) _ p (row.take (p * 3)) (by rfl) ((ho5.alloc _).alloc _) (some ⟨w5.heap.size + 1, 0, none⟩) 1 1 [.int .i64 key, .slice (some ⟨w5.heap.size, 0, none⟩) 1 1, .slice none 0 0] (by rfl) (fun h => (by cases h)) (by rfl) (fun ad e => by cases e; exact World.news_of_block (new_at2 w5 _ _)) (by intro u hu; simp at hu; rcases hu with rfl | rfl | rfl <;> rfl) (by unfold maxLen; omega) (by omega) (by simp; omega) ?_; intro v6 w6 ho6 hg6; obtain ⟨a6, c6, rfl, _⟩ := own_form ho6; have hb6 : Below X.heap.size X w6 := (push (push hb5 _) _).grown hg6 (by simp; omega) (fun b e => (World.ownsRow.lt ho5 b e).1); have hs6 := hb6.size)
                | (at_builtin; refine wpList_append_any _ (by rfl) (.tmp 110) (.tmp 113) 23 (by rfl) X.heap.size 60 j0 (.agg #[.int .i64 0, .slice none 0 0, .slice none 0 0]) 3 56 Try.underlying23 ji jz0 jz1 jz2 rfl (by decide) _ (p + 1) _ (by rfl) ho6 (some ⟨g, p * 3, none⟩) (N - p) (cv - p) (row.drop (p * 3)) (by rfl) (fun h => by cases h) HL3'.out (fun ad e j u h => by cases e; rw [Addr.add_lit]; exact HCE.out w6 hb6 g rfl (p * 3 + j) u (by rw [← List.getElem?_drop]; exact h)) HO3.out (by unfold maxLen; omega) (by omega) hs6 ?_; intro v7 w7 ho7 hg7))
              (try rw [Exit.noGoto_ret])
              obtain ⟨hs', qs', hF, hbF⟩ := FIN.out w5 a5 c5 w6 a6 c6 w7 v7 ho5 hg5 ho6 hg6 ho7 hg7
              refine bodyPost_ret (v := .tuple #[v7, .bool true, .int .i64 0]) (by simp [results, Try.results6, go_sem]) rfl ?_
              obtain ⟨a1, c1, e1, hat⟩ := hF.told.form
              exact ⟨⟨a1, c1, _, true, 0, by rw [e1], hat, askGood_ans HNB.out HA0.out (fun h => absurd rfl h) (fun _ => ⟨p, HP.out, .fresh HF.out⟩)⟩, hbF⟩
        | false =>
          have HF : Hid (p < N ∧ K p = key) := Classical.byContradiction fun h => by have := HFR.out.2 h; cases this
          have hpl := HF.out.1
          obtain ⟨g, rfl, hg1, hg2⟩ := own_addr HL4.out.row (by omega)
          go_upto_region 26 with fail
          generalize w4.alloc (.cells #[.int .i64 x, .bool s] 57) = X at hXb bA ⊢
          have HLX : Hid (LocksOwn X w.heap.size N (.slice (some ⟨g, 0, none⟩) N cv) K H Q hv qv) := HL4.out.below hXb
          have HBX : Hid (Below w.heap.size w X) := after HB4.out hXb
          have y0 := blk_cell bA 0 _ rfl
          have y1 := blk_cell bA 1 _ rfl
          have hlw : w4.heap.size < X.heap.size := blk_lt bA
          have hgX : g < X.heap.size := by omega
          have c1 := own_cell HLX.out.row (p * 3 + 1) (by omega) rfl
          have c2 := own_cell HLX.out.row (p * 3 + 2) (by omega) rfl
          rw [lockCell_1] at c1
          rw [lockCell_2] at c2
          have oh := HLX.out.held p hpl
          have oq := HLX.out.queue p hpl
          obtain ⟨ha, hc, eh, h1, h2, h3⟩ := own_form oh
          obtain ⟨qa, qc, eq, q1, q2, q3⟩ := own_form oq
          have EH : Hid (hv p = .slice ha (H p).n hc) := eh
          have EQ : Hid (qv p = .slice qa (Q p).n qc) := eq
          rw [eh] at c1 oh
          rw [eq] at c2 oq
          have HLH : Hid (LineAt X ha (H p)) := line_of_own oh
          have HSH : Hid (SliceOk ha (H p).n hc) := ⟨h1, by unfold maxLen at h2; omega, h3⟩
          have s1 : (H p).n ≤ 1048576 := (HS.out p hpl).1
          have s2 : (Q p).n ≤ 1048576 := (HS.out p hpl).2
          clear oh oq eh eq h1 h2 h3 q1 q2 q3 bA hXb
          have j1 : (p : Int) < (N : Int) := by omega
          have j2 : (0 : Int) ≤ (p : Int) := by omega
          have r1 : ∀ g' : Grown X, g'.val.cell? ⟨g, p * 3 + 1, none⟩ = some (.slice ha (H p).n hc) := fun g' => (g'.bel.cell (p := ⟨g, p * 3 + 1, none⟩) hgX).trans c1
          have r2 : ∀ g' : Grown X, g'.val.cell? ⟨g, p * 3 + 2, none⟩ = some (.slice qa (Q p).n qc) := fun g' => (g'.bel.cell (p := ⟨g, p * 3 + 2, none⟩) hgX).trans c2
          have r3 : ∀ g' : Grown X, g'.val.cell? ⟨w4.heap.size, 0, none⟩ = some (.int .i64 x) := fun g' => (g'.bel.cell (p := ⟨w4.heap.size, 0, none⟩) hlw).trans y0
          have r4 : ∀ g' : Grown X, g'.val.cell? ⟨w4.heap.size, 1, none⟩ = some (.bool s) := fun g' => (g'.bel.cell (p := ⟨w4.heap.size, 1, none⟩) hlw).trans y1
          clear c1 c2
          go_upto_region 27 with fail
          by_cases hput : (Q p).n = 0 ∧ mayB (H p) s = true
          · have HPU : Hid ((Q p).n = 0 ∧ mayB (H p) s = true) := hput
            have hq0 := hput.1
            have HM : Hid (mayB (H p) s = true) := hput.2
            clear hput
            have d0 : (((Q p).n : Int) == 0) = true := by rw [hq0]; rfl
            refine wp_region_grow (by kernel_rfl) (by kernel_rfl) ?_
            repeat (first | go_big_quiet_skip | (go_big_quiet_want; go_big_quiet_op; first | go_big_quiet_on | (apply Exists.intro; refine ⟨fun g' => ?_, ?_⟩; (focus (go_at_call 32; refine grown_call (v := .bool true) ((l2May_any _ _ _ (H p) _ _ _ rfl (HLH.out.below g'.bel)).mono ?_); rintro e w6 ⟨rfl, hbb⟩; exact ⟨by rw [HM.out], hbb⟩)); go_big_quiet_on)))
            refine wpQuiet_nil ?_
            rintro _ ⟨g', rfl⟩
            clear d0 hq0
            have hX2 : Below X.heap.size X g'.val := g'.bel
            have x1 := r1 g'
            have x3 := r3 g'
            have x4 := r4 g'
            have HY : Hid (Below X.heap.size X g'.val) := hX2
            clear r1 r2 r3 r4 hX2 y0 y1
            generalize g'.val = Y at HY x1 x3 x4 ⊢
            have HLY : Hid (LocksOwn Y w.heap.size N (.slice (some ⟨g, 0, none⟩) N cv) K H Q hv qv) := HLX.out.below HY.out
            have HBY : Hid (Below w.heap.size w Y) := after HBX.out HY.out
            have HCALL : Hid (∀ Z, Below Y.heap.size Y Z → Calls Try.prog 33 #[.slice ha (H p).n hc, .agg #[.int .i64 x, .bool s]] Z fun e w6 => ∃ a6 c6, e = .returned (.slice a6 ((H p).n + 1) c6) ∧ w6.ownsRow Y.heap.size 57 2 (.slice a6 ((H p).n + 1) c6) ((H p).n + 1) (askList (lineOf (insP (asksTo (H p) (H p).n) (x, s)))) ∧ Below Y.heap.size Y w6) := fun Z hZ => by
              have hl : LineAt Z ha (lineOf (asksTo (H p) (H p).n)) := by
                intro k hk
                have hk' : k < (H p).n := by have h9 : k < (asksTo (H p) (H p).n).length := hk; rwa [asksTo_length] at h9
                obtain ⟨b, off, e, h5, h6⟩ := ((HLH.out.below HY.out).below hZ) k hk'
                have ek : (asksTo (H p) (H p).n).getD k (0, false) = ((H p).T k, (H p).S k) := by simp [asksTo, List.getD, List.getElem?_range hk']
                exact ⟨b, off, e, by show Z.cell? _ = some (.int .i64 ((asksTo (H p) (H p).n).getD k (0, false)).1); rw [ek]; exact h5, by show Z.cell? _ = some (.bool ((asksTo (H p) (H p).n).getD k (0, false)).2); rw [ek]; exact h6⟩
              refine (l2Hold_any ha (H p).n hc (lineOf (asksTo (H p) (H p).n)) x s Z (asksTo_length _ _) s1 HSH.out.1 HSH.out.2.1 HSH.out.2.2 hl).mono ?_
              rintro e w6 ⟨⟨v6, q, h5, h6, h7⟩, h8⟩
              rw [insA_list h6] at h7
              obtain ⟨a6, c6, h9, _⟩ := own_form h7
              subst h9
              exact ⟨a6, c6, h5, by rw [askList_lineOf]; exact own_base h7 hZ.size, after hZ h8⟩
            go_wp2
            go_region_law (first
              | (go_simp; go_at_call 33; (with_reducible refine Calls.mono (HCALL.out _ ?_) ?_); (focus (repeat (first | exact Below.refl _ _ | refine Below.drew ?_))); rintro e w6 ⟨a6, c6, rfl, ho6, hb6⟩; have z6 := own_below hb6 HLY.out.row; have t1 := own_cell z6 (p * 3 + 1) (by omega) rfl; rw [lockCell_1, EH.out] at t1; have tf := own_row_free z6 (p * 3 + 1); dsimp only))
            all_goals
              have hF := HLY.out.putHeld (l := lineOf (insP (asksTo (H p) (H p).n) (x, s))) (v2 := .slice a6 ((H p).n + 1) c6) hpl (Kept.of_below hb6) (by
                have e : (lineOf (insP (asksTo (H p) (H p).n) (x, s))).n = (H p).n + 1 := by show (insP (asksTo (H p) (H p).n) (x, s)).length = _; rw [insP_length, asksTo_length]
                rw [e]
                exact own_base ho6 HBY.out.size) (fun b hb => .inr (World.ownsRow.lt ho6 b hb).1)
              have hbF : Below w.heap.size w (w6.setCell ⟨g, p * 3 + 1, none⟩ (.slice a6 ((H p).n + 1) c6)) := Kept.below (after HBY.out hb6) (by have := HBY.out.size; have := hb6.size; omega) ((Kept.refl w6 (fun b => b = g)).set (a := ⟨g, p * 3 + 1, none⟩) rfl _) (fun b e => by have e : b = g := e; have := (HLY.out.row.lt g rfl).1; omega)
              clear hb6 ho6 z6 t1 tf
              go_wp2
              refine bodyPost_ret (v := .tuple #[.slice (some ⟨g, 0, none⟩) N cv, .bool true, .int .i64 0]) (by simp [results, Try.results6, go_sem]) rfl ?_
              obtain ⟨a1, c1, e1, hat⟩ := hF.told.form
              exact ⟨⟨a1, c1, _, true, 0, by rw [e1], hat, askGood_ans HNB.out HA0.out (fun h => absurd rfl h) (fun _ => ⟨p, HP.out, .held HF.out HPU.out.1 HPU.out.2⟩)⟩, hbF⟩
          · have HPU : Hid (¬ ((Q p).n = 0 ∧ mayB (H p) s = true)) := hput
            by_cases hq0 : (Q p).n = 0
            · have HM : Hid (mayB (H p) s = false) := by
                cases hm : mayB (H p) s with
                | false => rfl
                | true => exact absurd ⟨hq0, hm⟩ hput
              clear hput
              have d0 : (((Q p).n : Int) == 0) = true := by rw [hq0]; rfl
              refine wp_region_grow (by kernel_rfl) (by kernel_rfl) ?_
              repeat (first | go_big_quiet_skip | (go_big_quiet_want; go_big_quiet_op; first | go_big_quiet_on | (apply Exists.intro; refine ⟨fun g' => ?_, ?_⟩; (focus (go_at_call 32; refine grown_call (v := .bool false) ((l2May_any _ _ _ (H p) _ _ _ rfl (HLH.out.below g'.bel)).mono ?_); rintro e w6 ⟨rfl, hbb⟩; exact ⟨by rw [HM.out], hbb⟩)); go_big_quiet_on)))
              refine wpQuiet_nil ?_
              rintro _ ⟨g', rfl⟩
              clear d0 hq0
              have hX2 : Below X.heap.size X g'.val := g'.bel
              have x2 := r2 g'
              have x3 := r3 g'
              have x4 := r4 g'
              have HY : Hid (Below X.heap.size X g'.val) := hX2
              clear r1 r2 r3 r4 hX2 y0 y1
              generalize g'.val = Y at HY x2 x3 x4 ⊢
              have HLY : Hid (LocksOwn Y w.heap.size N (.slice (some ⟨g, 0, none⟩) N cv) K H Q hv qv) := HLX.out.below HY.out
              have HBY : Hid (Below w.heap.size w Y) := after HBX.out HY.out
              have HQY : Hid ((Y.alloc (.cells #[.int .i64 x, .bool s] 57)).ownsRow w.heap.size 57 2 (.slice qa (Q p).n qc) (Q p).n (askList (Q p))) := by
                have h1 := own_below (push (Below.refl _ Y) (.cells #[.int .i64 x, .bool s] 57)) (HLY.out.queue p hpl)
                rw [EQ.out] at h1
                exact h1
              have KC : Hid (∀ w', Kept Y w' (fun b => (Value.slice qa (Q p).n qc).ownBlock = some b) → w'.ownsRow w.heap.size 60 3 (.slice (some ⟨g, 0, none⟩) N cv) N ((List.range (N * 3)).map (lockCell K hv qv))) := fun w' hk => hk.own HLY.out.row (fun b h1 h2 => own_apart HLY.out.row (HLY.out.queue p hpl) (by decide) b h1 (by rw [EQ.out]; exact h2))
              have hwY : w.heap.size ≤ Y.heap.size := HBY.out.size
              have z2 : (Y.alloc (.cells #[.int .i64 x, .bool s] 57)).cell? ⟨g, p * 3 + 2, none⟩ = some (.slice qa (Q p).n qc) := by
                have h1 := own_cell (own_below (push (Below.refl _ Y) (.cells #[.int .i64 x, .bool s] 57)) HLY.out.row) (p * 3 + 2) (by omega) rfl
                rw [lockCell_2, EQ.out] at h1
                exact h1
              go_wp2
              go_region_law (first
                | (refine step_append_lies _ (by rfl) (.tmp 146) (.tmp 148) 58 (by rfl) w.heap.size 57 q0 (.agg #[.int .i64 0, .bool false]) 2 16 Try.underlying58 qi qz0 qz1 qz2 rfl (by decide) (.slice qa (Q p).n qc) (Q p).n (askList (Q p)) (by rfl) HQY.out ⟨Y.heap.size, 0, none⟩ 1 1 [.int .i64 x, .bool s] (by rfl) (by rfl) (World.news_of_block (cs := #[.int .i64 x, .bool s]) (t := 57) (fr := (0, 0)) (heap_alloc_new Y _)) (by intro u hu; simp at hu; rcases hu with rfl | rfl <;> rfl) (by decide) (by unfold maxLen; omega) (by omega) (by simp; omega) (Y.heap.size + 1) (by simp) ?_; intro g6 c6 w6 ho6 hg6 hat6 hlt6; have hk6 : Kept Y w6 (fun b => (Value.slice qa (Q p).n qc).ownBlock = some b) := (Kept.of_below (push (Below.refl _ _).drew _)).trans (kept_by hg6); have t2 := own_cell (KC.out w6 hk6) (p * 3 + 2) (by omega) rfl; rw [lockCell_2, EQ.out] at t2; have tf := own_row_free (KC.out w6 hk6) (p * 3 + 2)))
              all_goals
                have hk7 : Kept Y w6 (fun b => (qv p).ownBlock = some b) := by rw [EQ.out]; exact hk6
                have hF := HLY.out.putWait (l := lineOf (asksTo (Q p) (Q p).n ++ [(x, s)])) (v2 := .slice (some ⟨g6, 0, none⟩) ((Q p).n + 1) c6) hpl hk7 (by
                  have e : (lineOf (asksTo (Q p) (Q p).n ++ [(x, s)])).n = (Q p).n + 1 := by show (asksTo (Q p) (Q p).n ++ [(x, s)]).length = _; rw [List.length_append, asksTo_length]; rfl
                  rw [e, askList_lineOf, cellsA_append, ← askList_asks]
                  exact ho6) (fun b hb => by
                  rw [EQ.out]
                  have hb' : g6 = b := by simpa [Value.ownBlock] using hb
                  subst hb'
                  rcases hat6 with h | h
                  · exact .inl h
                  · exact .inr (by omega))
                have hbF : Below w.heap.size w (w6.setCell ⟨g, p * 3 + 2, none⟩ (.slice (some ⟨g6, 0, none⟩) ((Q p).n + 1) c6)) := by
                  have hb7 : Below w.heap.size w w6 := Kept.below HBY.out hwY hk6 (fun b e => (World.ownsRow.lt HQY.out b e).1)
                  exact Kept.below hb7 (by have := hk6.size; omega) ((Kept.refl w6 (fun b => b = g)).set (a := ⟨g, p * 3 + 2, none⟩) rfl _) (fun b e => by have e : b = g := e; have := (HLY.out.row.lt g rfl).1; omega)
                clear hk6 hk7 ho6 hg6 hat6 t2 tf
                go_wp2
                refine bodyPost_ret (v := .tuple #[.slice (some ⟨g, 0, none⟩) N cv, .bool false, .int .i64 0]) (by simp [results, Try.results6, go_sem]) rfl ?_
                obtain ⟨a1, c1, e1, hat⟩ := hF.told.form
                exact ⟨⟨a1, c1, _, false, 0, by rw [e1], hat, askGood_ans HNB.out HA0.out (fun h => absurd rfl h) (fun _ => ⟨p, HP.out, .queue HF.out HPU.out⟩)⟩, hbF⟩
            · clear hput
              have d0 : (((Q p).n : Int) == 0) = false := by simpa using (show ¬ ((Q p).n : Int) = 0 by omega)
              refine wp_region_grow (by kernel_rfl) (by kernel_rfl) ?_
              repeat (first | go_big_quiet_skip | (go_big_quiet_want; go_big_quiet_op; go_big_quiet_on))
              refine wpQuiet_nil ?_
              rintro _ ⟨g', rfl⟩
              clear d0 hq0
              have hX2 : Below X.heap.size X g'.val := g'.bel
              have x2 := r2 g'
              have x3 := r3 g'
              have x4 := r4 g'
              have HY : Hid (Below X.heap.size X g'.val) := hX2
              clear r1 r2 r3 r4 hX2 y0 y1
              generalize g'.val = Y at HY x2 x3 x4 ⊢
              have HLY : Hid (LocksOwn Y w.heap.size N (.slice (some ⟨g, 0, none⟩) N cv) K H Q hv qv) := HLX.out.below HY.out
              have HBY : Hid (Below w.heap.size w Y) := after HBX.out HY.out
              have HQY : Hid ((Y.alloc (.cells #[.int .i64 x, .bool s] 57)).ownsRow w.heap.size 57 2 (.slice qa (Q p).n qc) (Q p).n (askList (Q p))) := by
                have h1 := own_below (push (Below.refl _ Y) (.cells #[.int .i64 x, .bool s] 57)) (HLY.out.queue p hpl)
                rw [EQ.out] at h1
                exact h1
              have KC : Hid (∀ w', Kept Y w' (fun b => (Value.slice qa (Q p).n qc).ownBlock = some b) → w'.ownsRow w.heap.size 60 3 (.slice (some ⟨g, 0, none⟩) N cv) N ((List.range (N * 3)).map (lockCell K hv qv))) := fun w' hk => hk.own HLY.out.row (fun b h1 h2 => own_apart HLY.out.row (HLY.out.queue p hpl) (by decide) b h1 (by rw [EQ.out]; exact h2))
              have hwY : w.heap.size ≤ Y.heap.size := HBY.out.size
              have z2 : (Y.alloc (.cells #[.int .i64 x, .bool s] 57)).cell? ⟨g, p * 3 + 2, none⟩ = some (.slice qa (Q p).n qc) := by
                have h1 := own_cell (own_below (push (Below.refl _ Y) (.cells #[.int .i64 x, .bool s] 57)) HLY.out.row) (p * 3 + 2) (by omega) rfl
                rw [lockCell_2, EQ.out] at h1
                exact h1
              go_wp2
              go_region_law (first
                | (refine step_append_lies _ (by rfl) (.tmp 146) (.tmp 148) 58 (by rfl) w.heap.size 57 q0 (.agg #[.int .i64 0, .bool false]) 2 16 Try.underlying58 qi qz0 qz1 qz2 rfl (by decide) (.slice qa (Q p).n qc) (Q p).n (askList (Q p)) (by rfl) HQY.out ⟨Y.heap.size, 0, none⟩ 1 1 [.int .i64 x, .bool s] (by rfl) (by rfl) (World.news_of_block (cs := #[.int .i64 x, .bool s]) (t := 57) (fr := (0, 0)) (heap_alloc_new Y _)) (by intro u hu; simp at hu; rcases hu with rfl | rfl <;> rfl) (by decide) (by unfold maxLen; omega) (by omega) (by simp; omega) (Y.heap.size + 1) (by simp) ?_; intro g6 c6 w6 ho6 hg6 hat6 hlt6; have hk6 : Kept Y w6 (fun b => (Value.slice qa (Q p).n qc).ownBlock = some b) := (Kept.of_below (push (Below.refl _ _).drew _)).trans (kept_by hg6); have t2 := own_cell (KC.out w6 hk6) (p * 3 + 2) (by omega) rfl; rw [lockCell_2, EQ.out] at t2; have tf := own_row_free (KC.out w6 hk6) (p * 3 + 2)))
              all_goals
                have hk7 : Kept Y w6 (fun b => (qv p).ownBlock = some b) := by rw [EQ.out]; exact hk6
                have hF := HLY.out.putWait (l := lineOf (asksTo (Q p) (Q p).n ++ [(x, s)])) (v2 := .slice (some ⟨g6, 0, none⟩) ((Q p).n + 1) c6) hpl hk7 (by
                  have e : (lineOf (asksTo (Q p) (Q p).n ++ [(x, s)])).n = (Q p).n + 1 := by show (asksTo (Q p) (Q p).n ++ [(x, s)]).length = _; rw [List.length_append, asksTo_length]; rfl
                  rw [e, askList_lineOf, cellsA_append, ← askList_asks]
                  exact ho6) (fun b hb => by
                  rw [EQ.out]
                  have hb' : g6 = b := by simpa [Value.ownBlock] using hb
                  subst hb'
                  rcases hat6 with h | h
                  · exact .inl h
                  · exact .inr (by omega))
                have hbF : Below w.heap.size w (w6.setCell ⟨g, p * 3 + 2, none⟩ (.slice (some ⟨g6, 0, none⟩) ((Q p).n + 1) c6)) := by
                  have hb7 : Below w.heap.size w w6 := Kept.below HBY.out hwY hk6 (fun b e => (World.ownsRow.lt HQY.out b e).1)
                  exact Kept.below hb7 (by have := hk6.size; omega) ((Kept.refl w6 (fun b => b = g)).set (a := ⟨g, p * 3 + 2, none⟩) rfl _) (fun b e => by have e : b = g := e; have := (HLY.out.row.lt g rfl).1; omega)
                clear hk6 hk7 ho6 hg6 hat6 t2 tf
                go_wp2
                refine bodyPost_ret (v := .tuple #[.slice (some ⟨g, 0, none⟩) N cv, .bool false, .int .i64 0]) (by simp [results, Try.results6, go_sem]) rfl ?_
                obtain ⟨a1, c1, e1, hat⟩ := hF.told.form
                exact ⟨⟨a1, c1, _, false, 0, by rw [e1], hat, askGood_ans HNB.out HA0.out (fun h => absurd rfl h) (fun _ => ⟨p, HP.out, .queue HF.out HPU.out⟩)⟩, hbF⟩

end Go.Proofs.Ytdmkpflphjemoaa
