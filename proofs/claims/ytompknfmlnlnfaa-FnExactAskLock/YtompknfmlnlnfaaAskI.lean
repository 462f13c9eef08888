/-
  OWN TEXT: the contract of impl.AskLock.
-/
import Derived.Test.YtompknfmlnlnfaaPutK
import Derived.Test.YtompknfmlnlnfaaCopyL
import Derived.Deep.DeepCutAuto
namespace Go.Proofs.Ytompknfmlnlnfaa
open Go.RowKit

/-- AskLock asks for what it may not be asked for. -/
def AskBad (N : Nat) (K : Nat → Int) (H Q : Nat → Line) (x key : Int) : Prop := ¬ GoodL N K H Q ∨ ∃ p, IsAt N K key p ∧ NoRoom N K x key p
theorem askBad_ans {N : Nat} {K : Nat → Int} {H Q : Nat → Line} {x key : Int} {s : Bool} (h : AskBad N K H Q x key) : AskAns N K H Q x key s [] false 1 := by
  refine ⟨fun _ => ⟨rfl, rfl, rfl⟩, fun g => ?_⟩
  rcases h with h | ⟨p, hp, hr⟩
  · exact absurd g h
  · exact ⟨p, hp, fun _ => ⟨rfl, rfl, rfl⟩, fun h => absurd hr h⟩
theorem keysUp_good {N : Nat} {K : Nat → Int} {H Q : Nat → Line} (g : GoodL N K H Q) : KeysUp N K := keysUp_of (fun i hi => (g.2 i hi).1)
theorem askGood_ans {N : Nat} {K : Nat → Int} {H Q : Nat → Line} {x key : Int} {s : Bool} {code : Int} {ls : List LockW} {ok : Bool} (h : ¬ AskBad N K H Q x key) (hc : AskCode N K H Q x key code) (h1 : code ≠ 0 → ls = locksP N K H Q ∧ ok = false) (h2 : code = 0 → ∃ p, IsAt N K key p ∧ PutIs N K H Q x key s p ls ok) : AskAns N K H Q x key s ls ok code := by
  have g : GoodL N K H Q := Classical.byContradiction fun g => h (.inl g)
  obtain ⟨p, hp⟩ := isAt_ex key N (keysUp_good g)
  refine ⟨fun h3 => absurd g h3, fun _ => ⟨p, hp, fun hr => absurd (.inr ⟨p, hp, hr⟩) h, fun _ => ⟨hc, h1, fun z => ?_⟩⟩⟩
  obtain ⟨q, hq, hput⟩ := h2 z
  obtain rfl := isAt_one hp hq
  exact hput

set_option maxHeartbeats 3200000 in
set_option maxRecDepth 100000 in
theorem implAsk_any (ao : Option Addr) (N c : Nat) (K : Nat → Int) (H Q : Nat → Line) (x key : Int) (s : Bool) (w : World) (hN : N ≤ 1048576) (hs : ShortTo N H Q 1048576) (hz : LocksAt w ao N K H Q) :
    Calls Try.prog 7 #[.slice ao N c, .int .i64 x, .int .i64 key, .bool s] w fun e w' => (∃ v ls ok code, e = .returned (.tuple #[v, .bool ok, .int .i64 code]) ∧ LocksL w' w.heap.size v ls ∧ Hid (AskAns N K H Q x key s ls ok code)) ∧ Below w.heap.size w w' := by
  have HS : Hid (ShortTo N H Q 1048576) := hs
  have HZ : Hid (LocksAt w ao N K H Q) := hz
  clear hs hz
  go_enter Try.func7, Try.ntmps7
  go_upto_region 1 with fail
  go_cut [30] (fun v wx => (∃ b : Bool, v = .bool b ∧ (b = true ↔ AskBad N K H Q x key)) ∧ Below w.heap.size w wx)
  case first =>
    go_wp2_with fail
    refine (implLocks_any ao N c K H Q _ HS.out (by omega) HZ.out).mono ?_
    rintro e w1 ⟨⟨v, rfl, hv⟩, hb1⟩
    have HV : Hid (v = true ↔ GoodI N K H Q) := hv
    clear hv
    cases v with
    | false =>
      have HG : Hid (¬ GoodL N K H Q) := fun h => by have := HV.out.2 ((goodL_iff N K H Q).1 h); cases this
      go_wp2
      go_meet
      exact ⟨⟨true, rfl, ⟨fun _ => .inl HG.out, fun _ => rfl⟩⟩, hb1⟩
    | true =>
      have HGL : Hid (GoodL N K H Q) := (goodL_iff N K H Q).2 (HV.out.1 rfl)
      have h60 := HGL.out.1
      clear HV
      by_cases ht : isTask x
      · by_cases hke : isKeyI key
        · have HT : Hid (isTask x ∧ isKeyI key) := ⟨ht, hke⟩
          go_wp2_with (first
            | (go_at_call 30; refine (isTask_yes _ _ ht).mono ?_; rintro e w' ⟨rfl, hw'⟩; have hw1 := hw'.symm; subst hw1)
            | (go_at_call 31; refine (isKey_yes _ _ hke).mono ?_; rintro e w' ⟨rfl, hw'⟩; have hw1 := hw'.symm; subst hw1))
          clear ht hke
          refine (roomForKey_any ao N c K H Q key _ h60 (keysUp_good HGL.out) HT.out.2 (HZ.out.below hb1)).mono ?_
          rintro e w2 ⟨⟨p, rfl, hp⟩, hb2⟩
          have hbb := after hb1 hb2
          by_cases hr : (p < N ∧ K p = key) ∨ N < 60
          · have HNB : Hid (¬ AskBad N K H Q x key) := by
              rintro (h | ⟨q, hq, hr2⟩)
              · exact h HGL.out
              · obtain rfl := isAt_one hp.out hq
                rcases hr with h | h
                · exact hr2.2.1 h
                · have := hr2.2.2; omega
            have ef : decide ((p < N ∧ K p = key) ∨ N < 60) = true := decide_eq_true hr
            rw [ef]
            clear hr ef hb1 hb2
            go_wp2
            go_meet
            exact ⟨⟨false, rfl, ⟨fun h => (by cases h), fun h => absurd h HNB.out⟩⟩, hbb⟩
          · have HNB : Hid (AskBad N K H Q x key) := .inr ⟨p, hp.out, HT.out, fun h => hr (.inl h), by have : ¬ N < 60 := fun h => hr (.inr h); omega⟩
            have ef : decide ((p < N ∧ K p = key) ∨ N < 60) = false := decide_eq_false hr
            rw [ef]
            clear hr ef hb1 hb2
            go_wp2
            go_meet
            exact ⟨⟨true, rfl, ⟨fun _ => HNB.out, fun _ => rfl⟩⟩, hbb⟩
        · have HNB : Hid (¬ AskBad N K H Q x key) := by
            rintro (h | ⟨q, hq, hr2⟩)
            · exact h HGL.out
            · exact hke hr2.1.2
          have HKE : Hid (¬ isKeyI key) := hke
          clear hke
          go_wp2_with (first
            | (go_at_call 30; refine (isTask_yes _ _ ht).mono ?_; rintro e w' ⟨rfl, hw'⟩; have hw1 := hw'.symm; subst hw1)
            | (go_at_call 31; refine (isKey_no _ _ HKE.out).mono ?_; rintro e w' ⟨rfl, hw'⟩; have hw1 := hw'.symm; subst hw1))
          go_meet
          exact ⟨⟨false, rfl, ⟨fun h => (by cases h), fun h => absurd h HNB.out⟩⟩, hb1⟩
      · have HNB : Hid (¬ AskBad N K H Q x key) := by
          rintro (h | ⟨q, hq, hr2⟩)
          · exact h HGL.out
          · exact ht hr2.1.1
        have HT : Hid (¬ isTask x) := ht
        clear ht
        go_wp2_with (first | (go_at_call 30; refine (isTask_no _ _ HT.out).mono ?_; rintro e w' ⟨rfl, hw'⟩; have hw1 := hw'.symm; subst hw1))
        go_meet
        exact ⟨⟨false, rfl, ⟨fun h => (by cases h), fun h => absurd h HNB.out⟩⟩, hb1⟩
  case rest =>
    obtain ⟨⟨b, rfl, hbad⟩, hbc⟩ := hcut
    cases b with
    | true =>
      have HBD : Hid (AskBad N K H Q x key) := hbad.1 rfl
      clear hbad
      go_wp2
      exact bodyPost_ret (v := .tuple #[.slice none 0 0, .bool false, .int .i64 1]) (by simp [results, Try.results7, go_sem]) rfl ⟨⟨_, [], false, 1, rfl, LocksL.nil _ _, askBad_ans HBD.out⟩, hbc⟩
    | false =>
      have HNB : Hid (¬ AskBad N K H Q x key) := fun h => by have := hbad.2 h; cases this
      have HGL : Hid (GoodL N K H Q) := Classical.byContradiction fun g => HNB.out (.inl g)
      have h60 := HGL.out.1
      have HS12 : Hid (ShortTo N H Q 12) := fun i hi => by have := good_lines ((goodL_iff N K H Q).1 HGL.out) hi; omega
      clear hbad
      go_wp2_with fail
      refine (copyLocks_any ao N c K H Q _ hN HS.out (HZ.out.below hbc)).mono ?_
      rintro e w2 ⟨⟨v, hv, qv, rfl, hL⟩, hb2⟩
      obtain ⟨av, cv, rfl, _⟩ := own_form hL.row
      have HL : Hid (LocksOwn w2 w.heap.size N (.slice av N cv) K H Q hv qv) := hL.base hbc.size
      have hb3 := after hbc hb2
      clear hL hb2 hbc
      go_wp2_with fail
      refine (codeOfAsk_any av N cv K H Q x key w2 h60 HS.out (rises_of ((goodL_iff N K H Q).1 HGL.out)) (keysUp_good HGL.out) HL.out.at_).mono ?_
      rintro e w3 ⟨⟨code, rfl, hcode⟩, hb4⟩
      have HL3 : Hid (LocksOwn w3 w.heap.size N (.slice av N cv) K H Q hv qv) := HL.out.below hb4
      have hb5 := after hb3 hb4
      clear hb3 hb4
      by_cases hz : code = 0
      · subst hz
        have HC := (askCode_zero hcode.out).1 rfl
        have HCC : Hid (isTask x ∧ isKeyI key) := HC.1
        clear HC
        go_wp2_with fail
        refine (putAsked_any av N cv w.heap.size K H Q hv qv x key s w3 h60 HS12.out (keysUp_good HGL.out) HCC.out.2 HL3.out hb5.size).mono ?_
        rintro e w4 ⟨⟨v4, ok, ls, p, rfl, hL4, hput⟩, hb6⟩
        go_wp2
        refine bodyPost_ret (v := .tuple #[v4, .bool ok, .int .i64 0]) (by simp [results, Try.results7, go_sem]) rfl ⟨⟨_, ls, ok, 0, rfl, hL4, askGood_ans HNB.out hcode.out (fun h => absurd rfl h) (fun _ => ⟨p, hput.out⟩)⟩, ?_⟩
        exact hb5.trans hb6
      · have dz : (code != 0) = true := by simpa using hz
        have HNZ : Hid (code ≠ 0) := hz
        clear hz
        go_wp2
        exact bodyPost_ret (v := .tuple #[.slice av N cv, .bool false, .int .i64 code]) (by simp [results, Try.results7, go_sem]) rfl ⟨⟨_, _, false, code, rfl, HL3.out.told, askGood_ans HNB.out hcode.out (fun _ => ⟨rfl, rfl⟩) (fun h => absurd h HNZ.out)⟩, hb5⟩

end Go.Proofs.Ytompknfmlnlnfaa
