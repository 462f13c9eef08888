/-
  OWN TEXT: KeysA0, PlainGr.
-/
import Derived.Test.YtdmkpflphjemoaaB24
import Derived.Test.YtdmkpflphjemoaaB33
namespace Go.Proofs.Ytdmkpflphjemoaa
open Go.RowKit

/-- What KeysOf answers. -/
def KeysAns (P : Prop) (l : List Int) (ks : List Int) (ok : Bool) : Prop := (P → ks = l ∧ ok = true) ∧ (¬ P → ks = [] ∧ ok = false)
theorem keysAns_len {P : Prop} {l ks : List Int} {ok : Bool} {n : Nat} (h : KeysAns P l ks ok) (hl : l.length ≤ n) : ks.length ≤ n := by
  by_cases p : P
  · rw [(h.1 p).1]; exact hl
  · rw [(h.2 p).1]; exact Nat.zero_le _
theorem keysOf_le (N : Nat) (K : Nat → Int) (H _Q : Nat → Line) (x : Int) : (keysTo K H x N).length ≤ N := keysTo_le K H x N

set_option maxHeartbeats 800000 in
theorem implKeys_any (ao : Option Addr) (N c : Nat) (K : Nat → Int) (H Q : Nat → Line) (x : Int) (w : World) (hN : N ≤ 1048576) (hs : ShortTo N H Q 1048576) (hx : LocksAt w ao N K H Q) :
    Calls Try.prog 10 #[.slice ao N c, .int .i64 x] w fun e w' => (∃ v ok ks, e = .returned (.tuple #[v, .bool ok]) ∧ WaitsIs w' w.heap.size v ks ∧ Hid (KeysAns (GoodI N K H Q ∧ isTask x) (keysTo K H x N) ks ok)) ∧ Below w.heap.size w w' := by
  have HS : Hid (ShortTo N H Q 1048576) := hs
  clear hs
  go_enter Try.func10, Try.ntmps10
  go_wp2_with fail
  refine (implLocks_any ao N c K H Q _ HS.out (by omega) hx).mono ?_
  rintro e w1 ⟨⟨v, rfl, hv⟩, hb1⟩
  have HV : Hid (v = true ↔ GoodI N K H Q) := hv
  clear hv
  cases v with
  | false =>
    have HG : Hid (¬ GoodI N K H Q) := fun h => by have := HV.out.2 h; cases this
    go_wp2
    exact bodyPost_ret (v := .tuple #[.slice none 0 0, .bool false]) (by simp [results, Try.results10, go_sem]) rfl ⟨⟨_, false, [], rfl, WaitsIs.nil _ _, ⟨fun h => absurd h.1 HG.out, fun _ => ⟨rfl, rfl⟩⟩⟩, hb1⟩
  | true =>
    have HG : Hid (GoodI N K H Q) := HV.out.1 rfl
    clear HV
    by_cases ht : isTask x
    · go_wp2_with (first | (go_at_call 20; refine (isTask_yes _ _ ht).mono ?_; rintro e w' ⟨rfl, hw'⟩; have hw1 := hw'.symm; subst hw1))
      refine (keysHeld_any ao N c K H Q x _ hN HS.out (rises_of HG.out) (hx.below hb1)).mono ?_
      rintro e w2 ⟨⟨v, rfl, hwt⟩, hb2⟩
      go_wp2
      exact bodyPost_ret (v := .tuple #[v, .bool true]) (by simp [results, Try.results10, go_sem]) rfl ⟨⟨v, true, _, rfl, own_base hwt hb1.size, ⟨fun _ => ⟨rfl, rfl⟩, fun h => absurd ⟨HG.out, ht⟩ h⟩⟩, after hb1 hb2⟩
    · have HT : Hid (¬ isTask x) := ht
      clear ht
      go_wp2_with (first | (go_at_call 20; refine (isTask_no _ _ HT.out).mono ?_; rintro e w' ⟨rfl, hw'⟩; have hw1 := hw'.symm; subst hw1))
      exact bodyPost_ret (v := .tuple #[.slice none 0 0, .bool false]) (by simp [results, Try.results10, go_sem]) rfl ⟨⟨_, false, [], rfl, WaitsIs.nil _ _, ⟨fun h => absurd h.2 HT.out, fun _ => ⟨rfl, rfl⟩⟩⟩, hb1⟩

end Go.Proofs.Ytdmkpflphjemoaa

namespace Go.Proofs.Ytdmkpflphjemoaa
open Go.RowKit

theorem noWait_tk {N : Nat} {Q : Nat → Line} {x : Int} (h : noWait N Q x) {i : Nat} (hi : i < N) : x ∉ tk (asksTo (Q i) (Q i).n) := fun e => h i hi ((mem_tk_asks _ _).1 e)
theorem noHold_tk {N : Nat} {K : Nat → Int} {H : Nat → Line} {x key : Int} (h : ¬ HoldsOn N K H x key) {i : Nat} (hi : i < N) (hk : key ≤ K i) : x ∉ tk (asksTo (H i) (H i).n) := fun e => h ⟨i, hi, hk, (mem_tk_asks _ _).1 e⟩
theorem asks_one (x : Int) (s : Bool) : asksTo (lineOf [(x, s)]) (lineOf [(x, s)]).n = [(x, s)] := (asksTo_lineOf [(x, s)] 1 (Nat.le_refl _)).trans rfl
theorem asks_of (l : List (Int × Bool)) : asksTo (lineOf l) (lineOf l).n = l := (asksTo_lineOf l l.length (Nat.le_refl _)).trans List.take_length
theorem isAt_keys {N : Nat} {K : Nat → Int} {H Q : Nat → Line} (g : GoodI N K H Q) {i j : Nat} (hij : i < j) (hj : j < N) : K i < K j := by
  have gp := GoodP.of g
  have := List.pairwise_iff_getElem.1 gp.2.2 i j (by simp [locksP]; omega) (by simp [locksP]; omega) hij
  simpa [locksP] using this.1
/-- What an ask that is not refused leaves. -/
structure AskLeft (x key : Int) (ls : List LockW) (ok : Bool) : Prop where
  good : GoodP ls
  holds : ok = true → (∀ b ∈ ls, x ∉ tk b.2.2) ∧ ∃ l1 a l2, ls = l1 ++ a :: l2 ∧ a.1 = key ∧ x ∈ tk a.2.1 ∧ ∀ b ∈ l2, x ∉ tk b.2.1
  waits : ok = false → ∃ l1 a l2, ls = l1 ++ a :: l2 ∧ a.1 = key ∧ x ∈ tk a.2.2 ∧ ∀ b ∈ l1, x ∉ tk b.2.2
theorem mayB_asks {h : Line} {s : Bool} : mayB h s = mayP (asksTo h h.n) s := by
  rw [← mayB_lineOf]
  unfold mayB
  have hn2 : (lineOf (asksTo h h.n)).n = h.n := asksTo_length _ _
  rw [hn2]
  by_cases c : h.n = 0
  · simp [c]
  · have hs : (lineOf (asksTo h h.n)).S 0 = h.S 0 := by
      rw [(line_T (show 0 < (asksTo h h.n).length by rw [asksTo_length]; omega)).2]
      simp [asksTo]
    rw [hs]
theorem asks_nil {l : Line} (h : l.n = 0) : asksTo l l.n = [] := by rw [h]; rfl
theorem putIs_left {N : Nat} {K : Nat → Int} {H Q : Nat → Line} {x key : Int} {s : Bool} {p : Nat} {ls : List LockW} {ok : Bool} (g : GoodI N K H Q) (hp : IsAt N K key p) (hr : ¬ (¬ (p < N ∧ K p = key) ∧ N = 60)) (hx : isTask x) (hk : isKeyI key) (hw : noWait N Q x) (hh : ¬ HoldsOn N K H x key) (h : PutIs N K H Q x key s p ls ok) : AskLeft x key ls ok := by
  have gp := GoodP.of g
  have hlen : (locksP N K H Q).length = N := by simp [locksP]
  have h60 : N ≤ 60 := g.1
  obtain ⟨p1, p2, p3⟩ := hp
  have hsplit := gp.2.2
  have m1 : ∀ a ∈ (locksP N K H Q).take p, LockP a := fun a ha => gp.2.1 a (List.mem_of_mem_take ha)
  cases h with
  | fresh h3 =>
    rw [show locksP (N + 1) (insF K p key) (insF H p (lineOf [(x, s)])) (insF Q p (lineOf [])) = (locksP N K H Q).take p ++ (key, [(x, s)], []) :: (locksP N K H Q).drop p from
      map_ins p1 (fun i hi => by rw [insF_lt hi, insF_lt hi, insF_lt hi]) (by rw [insF_at, insF_at, insF_at, asks_one]; rfl) (fun i hi => by rw [insF_gt hi, insF_gt hi, insF_gt hi])]
    rw [← List.take_append_drop p (locksP N K H Q)] at hsplit
    obtain ⟨s1, s2, s3⟩ := List.pairwise_append.1 hsplit
    have hlt : ∀ i, p ≤ i → i < N → key < K i := fun i hi hiN => by
      have h4 := p3 i hi hiN
      by_cases e : i = p
      · subst e
        have : K i ≠ key := fun e => h3 ⟨hiN, e⟩
        omega
      · have h5 := isAt_keys g (show p < i by omega) hiN
        have h6 := p3 p (Nat.le_refl _) (by omega)
        omega
    refine ⟨GoodP.put ?_ m1 (fun a ha => gp.2.1 a (List.mem_of_mem_drop ha)) s1 s2 s3 ?_ (fun a ha => ?_) (fun b hb => ?_), fun _ => ⟨fun b hb => ?_, _, _, _, rfl, rfl, by simp, fun b hb => ?_⟩, fun e => by cases e⟩
    · rw [List.length_take, List.length_drop, hlen]
      have : N ≠ 60 := fun e => hr ⟨h3, e⟩
      omega
    · exact ⟨hk, by simp, by simp [Strict], fun t ht => by simp at ht; rw [ht]; exact hx, .inl (by simp), fun t ht => by simp at ht, by simp, fun t ht => by simp at ht, fun b q e => by cases e⟩
    · obtain ⟨i, hi, hiN, rfl⟩ := mem_takeP ha
      refine ⟨p2 i hi, fun t ht => ⟨fun h => ?_, fun h => by simp at h⟩⟩
      simp at h
      exact noWait_tk hw hiN (h ▸ ht)
    · obtain ⟨i, hi, hiN, rfl⟩ := mem_dropP hb
      exact ⟨hlt i hi hiN, fun t ht => by simp at ht⟩
    · rcases List.mem_append.1 hb with h | h
      · obtain ⟨i, hi, hiN, rfl⟩ := mem_takeP h; exact noWait_tk hw hiN
      · rcases List.mem_cons.1 h with rfl | h
        · simp
        · obtain ⟨i, hi, hiN, rfl⟩ := mem_dropP h; exact noWait_tk hw hiN
    · obtain ⟨i, hi, hiN, rfl⟩ := mem_dropP hb
      exact noHold_tk hh hiN (Int.le_of_lt (hlt i hi hiN))
  | held h3 hq hm =>
    obtain ⟨hpN, hkey⟩ := h3
    have hlt : ∀ i, p < i → i < N → key < K i := fun i hi hiN => by have h5 := isAt_keys g hi hiN; omega
    rw [show locksP N K (setF H p (lineOf (insP (asksTo (H p) (H p).n) (x, s)))) Q = (locksP N K H Q).take p ++ (key, insP (asksTo (H p) (H p).n) (x, s), []) :: (locksP N K H Q).drop (p + 1) from
      map_setF hpN (fun i hi => by rw [setF_ne hi]) (by rw [setF_at, asks_of, hkey, asks_nil hq])]
    have gl : LockP (K p, asksTo (H p) (H p).n, asksTo (Q p) (Q p).n) := gp.2.1 _ (List.mem_map.2 ⟨p, by simpa using hpN, rfl⟩)
    have e0 : locksP N K H Q = (locksP N K H Q).take p ++ (K p, asksTo (H p) (H p).n, asksTo (Q p) (Q p).n) :: (locksP N K H Q).drop (p + 1) := map_setF hpN (fun i _ => rfl) rfl
    rw [e0] at hsplit
    obtain ⟨s1, s2, s3⟩ := List.pairwise_append.1 hsplit
    obtain ⟨s4, s5⟩ := List.pairwise_cons.1 s2
    have hxh : x ∉ tk (asksTo (H p) (H p).n) := noHold_tk hh hpN (by omega)
    rw [mayB_asks] at hm
    refine ⟨GoodP.put ?_ m1 (fun a ha => gp.2.1 a (List.mem_of_mem_drop ha)) s1 s5 (fun a ha b hb => s3 a ha b (List.mem_cons_of_mem _ hb)) ?_ (fun a ha => ?_) (fun b hb => ?_), fun _ => ⟨fun b hb => ?_, _, _, _, rfl, rfl, insP_tk.2 (.inl rfl), fun b hb => ?_⟩, fun e => by cases e⟩
    · rw [List.length_take, List.length_drop, hlen]; omega
    · refine ⟨hk, fun e => ?_, insP_up gl.up hxh, fun t ht => ?_, may_share gl.share hm, fun t ht => by simp at ht, by simp, fun t ht => by simp at ht, fun b q e => by cases e⟩
      · have := insP_length (asksTo (H p) (H p).n) (x, s)
        rw [show insP (asksTo (H p) (H p).n) (x, s) = [] from e] at this
        simp at this
      · rcases insP_tk.1 ht with h | h
        · rw [h]; exact hx
        · exact gl.task t h
    · obtain ⟨i, hi, hiN, rfl⟩ := mem_takeP ha
      refine ⟨p2 i hi, fun t ht => ⟨fun h => ?_, fun h => by simp at h⟩⟩
      rcases insP_tk.1 h with h | h
      · have h : t = x := h
        exact noWait_tk hw hiN (h ▸ ht)
      · exact ((s3 _ ha _ (List.mem_cons_self ..)).2 t ht).1 h
    · obtain ⟨i, hi, hiN, rfl⟩ := mem_dropP hb
      exact ⟨hlt i hi hiN, fun t ht => by simp at ht⟩
    · rcases List.mem_append.1 hb with h | h
      · obtain ⟨i, hi, hiN, rfl⟩ := mem_takeP h; exact noWait_tk hw hiN
      · rcases List.mem_cons.1 h with rfl | h
        · simp
        · obtain ⟨i, hi, hiN, rfl⟩ := mem_dropP h; exact noWait_tk hw hiN
    · obtain ⟨i, hi, hiN, rfl⟩ := mem_dropP hb
      exact noHold_tk hh hiN (Int.le_of_lt (hlt i hi hiN))
  | queue h3 hn =>
    obtain ⟨hpN, hkey⟩ := h3
    have hlt : ∀ i, p < i → i < N → key < K i := fun i hi hiN => by have h5 := isAt_keys g hi hiN; omega
    rw [show locksP N K H (setF Q p (lineOf (asksTo (Q p) (Q p).n ++ [(x, s)]))) = (locksP N K H Q).take p ++ (key, asksTo (H p) (H p).n, asksTo (Q p) (Q p).n ++ [(x, s)]) :: (locksP N K H Q).drop (p + 1) from
      map_setF hpN (fun i hi => by rw [setF_ne hi]) (by rw [setF_at, asks_of, hkey])]
    have gl : LockP (K p, asksTo (H p) (H p).n, asksTo (Q p) (Q p).n) := gp.2.1 _ (List.mem_map.2 ⟨p, by simpa using hpN, rfl⟩)
    have e0 : locksP N K H Q = (locksP N K H Q).take p ++ (K p, asksTo (H p) (H p).n, asksTo (Q p) (Q p).n) :: (locksP N K H Q).drop (p + 1) := map_setF hpN (fun i _ => rfl) rfl
    rw [e0] at hsplit
    obtain ⟨s1, s2, s3⟩ := List.pairwise_append.1 hsplit
    obtain ⟨s4, s5⟩ := List.pairwise_cons.1 s2
    have hxh : x ∉ tk (asksTo (H p) (H p).n) := noHold_tk hh hpN (by omega)
    have hxq : x ∉ tk (asksTo (Q p) (Q p).n) := noWait_tk hw hpN
    have tq : ∀ t, t ∈ tk (asksTo (Q p) (Q p).n ++ [(x, s)]) → t ∈ tk (asksTo (Q p) (Q p).n) ∨ t = x := fun t ht => by
      unfold tk at ht ⊢
      rw [List.map_append, List.mem_append] at ht
      rcases ht with h | h
      · exact .inl h
      · simp at h; exact .inr h
    refine ⟨GoodP.put ?_ m1 (fun a ha => gp.2.1 a (List.mem_of_mem_drop ha)) s1 s5 (fun a ha b hb => s3 a ha b (List.mem_cons_of_mem _ hb)) ?_ (fun a ha => ?_) (fun b hb => ?_), fun e => (by cases e), fun _ => ⟨_, _, _, rfl, rfl, by simp, fun b hb => ?_⟩⟩
    · rw [List.length_take, List.length_drop, hlen]; omega
    · refine ⟨hk, gl.some, gl.up, gl.task, gl.share, fun t ht => ?_, ?_, fun t ht h => ?_, fun b q e => ?_⟩
      · rcases tq t ht with h | h
        · exact gl.qtask t h
        · rw [h]; exact hx
      · show (tk (asksTo (Q p) (Q p).n ++ [(x, s)])).Nodup
        unfold tk
        rw [List.map_append, List.nodup_append]
        refine ⟨gl.qone, by simp, fun a ha b hb e => ?_⟩
        simp at hb
        exact hxq (hb ▸ e ▸ ha)
      · rcases tq t ht with h2 | h2
        · exact gl.apart t h2 h
        · exact hxh (h2 ▸ h)
      · show mayP (asksTo (H p) (H p).n) b.2 = false
        cases eq : asksTo (Q p) (Q p).n with
        | nil =>
          have e' : asksTo (Q p) (Q p).n ++ [(x, s)] = b :: q := e
          rw [eq] at e'
          simp at e'
          rw [← e'.1, ← mayB_asks]
          have hq0 : (Q p).n = 0 := by have := congrArg List.length eq; rw [asksTo_length] at this; simpa using this
          have : ¬ mayB (H p) s = true := fun h => hn ⟨hq0, h⟩
          simpa using this
        | cons b0 q0 =>
          have e' : asksTo (Q p) (Q p).n ++ [(x, s)] = b :: q := e
          rw [eq] at e'
          simp at e'
          rw [← e'.1]
          exact gl.bars b0 q0 eq
    · obtain ⟨i, hi, hiN, rfl⟩ := mem_takeP ha
      have h6 := s3 _ ha _ (List.mem_cons_self ..)
      refine ⟨p2 i hi, fun t ht => ⟨(h6.2 t ht).1, fun h => ?_⟩⟩
      rcases tq t h with h7 | h7
      · exact (h6.2 t ht).2 h7
      · exact noWait_tk hw hiN (h7 ▸ ht)
    · have h6 := s4 b hb
      obtain ⟨i, hi, hiN, rfl⟩ := mem_dropP hb
      refine ⟨hlt i hi hiN, fun t ht => ?_⟩
      rcases tq t ht with h7 | h7
      · exact h6.2 t h7
      · rw [h7]; exact ⟨noHold_tk hh hiN (Int.le_of_lt (hlt i hi hiN)), noWait_tk hw hiN⟩
    · obtain ⟨i, hi, hiN, rfl⟩ := mem_takeP hb
      exact noWait_tk hw hiN
theorem ask_left {N : Nat} {K : Nat → Int} {H Q : Nat → Line} {x key : Int} {s : Bool} {ls : List LockW} {ok : Bool} {code : Int} (h : AskAns N K H Q x key s ls ok code) (h0 : code = 0) : AskLeft x key ls ok ∧ isTask x := by
  subst h0
  by_cases g : GoodL N K H Q
  · obtain ⟨p, hp, h1, h2⟩ := h.2 g
    by_cases r : NoRoom N K x key p
    · have := (h1 r).2.2; cases this
    · obtain ⟨c1, _, e1⟩ := h2 r
      obtain ⟨⟨hx, hk⟩, hw, hh⟩ := (askCode_zero c1).1 rfl
      exact ⟨putIs_left ((goodL_iff N K H Q).1 g) hp (fun e => r ⟨⟨hx, hk⟩, e.1, e.2⟩) hx hk hw hh (e1 rfl), hx⟩
  · have := (h.1 g).2.2; cases this
/-- What a leaving that is not refused leaves. -/
theorem leave_left {N : Nat} {K : Nat → Int} {H Q : Nat → Line} {x : Int} {ls : List LockW} {es : List Int} {code : Int} (h : LeaveAns N K H Q x ls es code) (h0 : code = 0) : (GoodP ls ∧ ∀ b ∈ ls, x ∉ tk b.2.1 ∧ x ∉ tk b.2.2) ∧ isTask x := by
  subst h0
  by_cases g : GoodL N K H Q
  · by_cases t : isTask x
    · obtain ⟨rfl, _, _⟩ := h.2.2 g t
      rw [leaveTo_flat]
      exact ⟨(GoodP.of ((goodL_iff N K H Q).1 g)).leave x, t⟩
    · have := (h.2.1 g t).2.2; cases this
  · have := (h.1 g).2.2; cases this

theorem inHeld {ls : List LockW} {i : Nat} {x : Int} (hi : i < ls.length) : inLine (heldF ls i) x ↔ x ∈ tk ls[i].2.1 := by unfold heldF; rw [ls_get hi, inLine_of]
theorem inQueue {ls : List LockW} {i : Nat} {x : Int} (hi : i < ls.length) : inLine (queueF ls i) x ↔ x ∈ tk ls[i].2.2 := by unfold queueF; rw [ls_get hi, inLine_of]
theorem waits_none {ls : List LockW} {x y : Int} {b : Bool} {P : Prop} (h : ∀ b ∈ ls, x ∉ tk b.2.2) (hw : WaitAns P ls.length (keyF ls) (queueF ls) x y b) : b = false := by
  rcases hw with ⟨i, _, hi, _, _⟩ | ⟨_, _, e⟩
  · exact absurd ((inQueue hi.1).1 hi.2.1) (h _ (List.getElem_mem hi.1))
  · exact e
theorem mid_get {l1 l2 : List LockW} {a : LockW} : (l1 ++ a :: l2)[l1.length]'(by simp) = a := by simp
theorem waits_at {l1 l2 : List LockW} {a : LockW} {x y : Int} {b : Bool} {P : Prop} (hP : P) (ha : x ∈ tk a.2.2) (h1 : ∀ b ∈ l1, x ∉ tk b.2.2) (hw : WaitAns P (l1 ++ a :: l2).length (keyF (l1 ++ a :: l2)) (queueF (l1 ++ a :: l2)) x y b) : b = true ∧ y = a.1 := by
  have hl : l1.length < (l1 ++ a :: l2).length := by simp
  have hwi : waitsIn (l1 ++ a :: l2).length (queueF (l1 ++ a :: l2)) x l1.length := by
    refine ⟨hl, (inQueue hl).2 (by rw [mid_get]; exact ha), fun i hi h => ?_⟩
    have h2 := (inQueue (by omega)).1 h
    rw [List.getElem_append_left hi] at h2
    exact h1 _ (List.getElem_mem hi) h2
  rcases hw with ⟨i, _, hi, e1, e2⟩ | ⟨h3, _⟩
  · obtain rfl := waitsIn_one hwi hi
    refine ⟨e2, ?_⟩
    rw [e1]
    unfold keyF
    rw [ls_get hl, mid_get]
  · exact absurd ⟨hP, hwi⟩ (h3 _)
theorem keys_none {ls : List LockW} {x : Int} (h : ∀ b ∈ ls, x ∉ tk b.2.1) : keysTo (keyF ls) (heldF ls) x ls.length = [] := by
  rcases keysTo_last (K := keyF ls) (H := heldF ls) (x := x) ls.length with ⟨h1, _⟩ | ⟨_, i, hi, h2, _⟩
  · exact h1
  · exact absurd ((inHeld hi).1 h2) (h _ (List.getElem_mem hi))
theorem keys_last {l1 l2 : List LockW} {a : LockW} {x : Int} (ha : x ∈ tk a.2.1) (h2 : ∀ b ∈ l2, x ∉ tk b.2.1) : 0 < (keysTo (keyF (l1 ++ a :: l2)) (heldF (l1 ++ a :: l2)) x (l1 ++ a :: l2).length).length ∧
    getI (keysTo (keyF (l1 ++ a :: l2)) (heldF (l1 ++ a :: l2)) x (l1 ++ a :: l2).length) ((keysTo (keyF (l1 ++ a :: l2)) (heldF (l1 ++ a :: l2)) x (l1 ++ a :: l2).length).length - 1) = a.1 := by
  have hl : l1.length < (l1 ++ a :: l2).length := by simp
  have hin : inLine (heldF (l1 ++ a :: l2) l1.length) x := (inHeld hl).2 (by rw [mid_get]; exact ha)
  rcases keysTo_last (K := keyF (l1 ++ a :: l2)) (H := heldF (l1 ++ a :: l2)) (x := x) (l1 ++ a :: l2).length with ⟨_, h1⟩ | ⟨h0, i, hi, h3, h4, h5⟩
  · exact absurd hin (h1 _ hl)
  · refine ⟨h0, ?_⟩
    rw [h4]
    have e : i = l1.length := by
      rcases Nat.lt_trichotomy i l1.length with h | h | h
      · exact absurd hin (h5 _ h hl)
      · exact h
      · have h6 := (inHeld hi).1 h3
        have : (l1 ++ a :: l2)[i] ∈ l2 := by
          rw [List.getElem_append_right (by omega)]
          obtain ⟨j, hj⟩ : ∃ j, i - l1.length = j + 1 := ⟨i - l1.length - 1, by omega⟩
          simp only [hj, List.getElem_cons_succ]
          exact List.getElem_mem _
        exact absurd h6 (h2 _ this)
    subst e
    unfold keyF
    rw [ls_get hl, mid_get]

end Go.Proofs.Ytdmkpflphjemoaa
