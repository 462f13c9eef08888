/-
  OWN TEXT: the contract of the program's EarliestRoute.
-/
import Derived.Test.YtaalhmaacaahhahFirstI
import Derived.Test.YtaalhmaacaahhahImplT
namespace Go.Proofs.Ytaalhmaacaahhah
open Go.RowKit

theorem sails_at {w : World} {b off N : Nat} {S : Nat → Sail} (h : SailsAt w (some ⟨b, off, none⟩) N S) : ∃ la ca lc cc, SailsIn w b off N S la ca lc cc := by
  by_cases h0 : N = 0
  · subst h0
    exact ⟨fun _ => none, fun _ => none, fun _ => 0, fun _ => 0, fun k hk => absurd hk (Nat.not_lt_zero _)⟩
  · obtain ⟨b', off', la, ca, lc, cc, e, _, hi⟩ := sails_in h (by omega)
    simp only [Option.some.injEq, Addr.mk.injEq, and_true] at e
    obtain ⟨rfl, rfl⟩ := e
    exact ⟨la, ca, lc, cc, hi⟩

/-- What the question is about is as said. -/
def AskOk (N : Nat) (S : Nat → Sail) (fr tt : ByteArray) (t0 : Int) : Prop := GoodTab N S ∧ Unlike fr tt ∧ In t0 0 10000
/-- a is the answer: the best way, or none. -/
def AnsIs (N : Nat) (S : Nat → Sail) (fr tt : ByteArray) (t0 : Int) : Option (List Nat) → Prop
  | some p => AskOk N S fr tt t0 ∧ Best N S fr t0 tt p
  | none => ¬ AskOk N S fr tt t0 ∨ ∀ q, ¬ Goal N S fr t0 tt q
theorem ans_one {N : Nat} {S : Nat → Sail} {fr tt : ByteArray} {t0 : Int} {a b : Option (List Nat)} (ha : AnsIs N S fr tt t0 a) (hb : AnsIs N S fr tt t0 b) : a = b := by
  cases a with
  | none =>
    cases b with
    | none => rfl
    | some q =>
      rcases ha with h | h
      · exact absurd hb.1 h
      · exact absurd hb.2.1 (h q)
  | some p =>
    cases b with
    | none =>
      rcases hb with h | h
      · exact absurd ha.1 h
      · exact absurd ha.2.1 (h p)
    | some q => rw [best_unique ha.2 hb.2]
/-- What EarliestRoute answers. -/
def RouteOut (e : Ending) (w w' : World) (N : Nat) (S : Nat → Sail) (fr tt : ByteArray) (t0 : Int) : Prop :=
  ∃ (a : Option (List Nat)) (ao : Option Addr) (c : Nat), AnsIs N S fr tt t0 a ∧ e = .returned (.tuple #[.slice ao (a.getD []).length c, .bool a.isSome]) ∧ w'.ownsRow w.heap.size 3 1 (.slice ao (a.getD []).length c) (a.getD []).length (cellsI (ids S (a.getD []))) ∧ Below w.heap.size w w'

set_option maxHeartbeats 1600000 in
set_option maxRecDepth 100000 in
theorem implRoute_any (b off N c : Nat) (S : Nat → Sail) (fr tt : ByteArray) (t0 : Int) (w : World) (hN : N ≤ 1048576) (hs : ShortAll N S 1048576) (hfr : fr.size ≤ 1000000000000000) (htt : tt.size ≤ 1000000000000000) (hx : SailsAt w (some ⟨b, off, none⟩) N S) :
    Calls Try.prog 19 #[.slice (some ⟨b, off, none⟩) N c, .string fr, .string tt, .int .i64 t0] w fun e w' => RouteOut e w w' N S fr tt t0 := by
  go_enter Try.func19, Try.ntmps19
  go_wp2_with fail
  refine (implTab_any _ N c S _ hN hs hx).mono ?_
  rintro e w1 ⟨⟨b1, rfl, hi1⟩, hb1⟩
  cases b1 with
  | false =>
    have HN : Hid (¬ GoodTab N S) := fun h => by have := hi1.2 h; cases this
    clear hi1
    go_wp2
    exact bodyPost_ret (v := .tuple #[.slice none 0 0, .bool false]) (by simp [results, Try.results19, go_sem]) rfl ⟨none, none, 0, .inl (fun h => HN.out h.1), rfl, World.ownsRow_nil _ _ _ _, hb1⟩
  | true =>
    have HT : Hid (GoodTab N S) := hi1.1 rfl
    clear hi1
    by_cases hu : Unlike fr tt
    case neg =>
      have du : decide (Unlike fr tt) = false := decide_eq_false hu
      have HN : Hid (¬ Unlike fr tt) := hu
      clear hu
      go_wp2_with (first | (go_at_call 50; refine (unlikeNames_is _ _ _ hfr htt).mono ?_; rintro e w' ⟨rfl, hw'⟩; have hw' := hw'.symm; subst hw'))
      exact bodyPost_ret (v := .tuple #[.slice none 0 0, .bool false]) (by simp [results, Try.results19, go_sem]) rfl ⟨none, none, 0, .inl (fun h => HN.out h.2.1), rfl, World.ownsRow_nil _ _ _ _, hb1⟩
    have du : decide (Unlike fr tt) = true := decide_eq_true hu
    have HU : Hid (Unlike fr tt) := hu
    clear hu
    by_cases ht : In t0 0 10000
    case neg =>
      have dt : decide (In t0 0 10000) = false := decide_eq_false ht
      have HN : Hid (¬ In t0 0 10000) := ht
      clear ht
      go_wp2_with (first | (go_at_call 50; refine (unlikeNames_is _ _ _ hfr htt).mono ?_; rintro e w' ⟨rfl, hw'⟩; have hw' := hw'.symm; subst hw') | (go_at_call 43; refine (within_is _ _ _ _).mono ?_; rintro e w' ⟨rfl, hw'⟩; have hw' := hw'.symm; subst hw'))
      exact bodyPost_ret (v := .tuple #[.slice none 0 0, .bool false]) (by simp [results, Try.results19, go_sem]) rfl ⟨none, none, 0, .inl (fun h => HN.out h.2.2), rfl, World.ownsRow_nil _ _ _ _, hb1⟩
    have dt : decide (In t0 0 10000) = true := decide_eq_true ht
    have HI : Hid (In t0 0 10000) := ht
    clear ht
    go_wp2_with (first | (go_at_call 50; refine (unlikeNames_is _ _ _ hfr htt).mono ?_; rintro e w' ⟨rfl, hw'⟩; have hw' := hw'.symm; subst hw') | (go_at_call 43; refine (within_is _ _ _ _).mono ?_; rintro e w' ⟨rfl, hw'⟩; have hw' := hw'.symm; subst hw'))
    obtain ⟨la, ca, lc, cc, hin⟩ := sails_at (hx.below hb1)
    refine Calls.mono (first_any b off N c S la ca lc cc fr tt t0 _ HT.out.1 hin (rising_of HT.out) (fun k hk => by have := (HT.out.2 k hk).1; exact ⟨this.2.2.2.2.1, this.2.2.2.2.2.1, this.2.2.2.2.2.2.1⟩) HI.out.1 HI.out.2) ?_
    rintro e w2 ⟨hr, hb2⟩
    rcases hr with ⟨p, ao, cp, hbest, rfl, hown⟩ | ⟨hno, rfl⟩
    · have HB : Hid (Best N S fr t0 tt p) := hbest
      have HO : Hid (w2.ownsRow w.heap.size 3 1 (.slice ao p.length cp) p.length (cellsI (ids S p))) := own_base hown hb1.size
      clear hbest hown
      go_wp2
      exact bodyPost_ret (v := .tuple #[.slice ao p.length cp, .bool true]) (by simp [results, Try.results19, go_sem]) rfl ⟨some p, ao, cp, ⟨⟨HT.out, HU.out, HI.out⟩, HB.out⟩, rfl, HO.out, after hb1 hb2⟩
    · have HNO : Hid (∀ q, ¬ Goal N S fr t0 tt q) := hno
      clear hno
      go_wp2
      exact bodyPost_ret (v := .tuple #[.slice none 0 0, .bool false]) (by simp [results, Try.results19, go_sem]) rfl ⟨none, none, 0, .inr HNO.out, rfl, World.ownsRow_nil _ _ _ _, after hb1 hb2⟩

end Go.Proofs.Ytaalhmaacaahhah
