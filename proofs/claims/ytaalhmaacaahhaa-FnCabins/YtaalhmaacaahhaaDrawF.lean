/-
  OWN TEXT: contracts of the drawing of cabins and rooms: cabinsOf, classOf.
-/
import Derived.Test.YtaalhmaacaahhaaDrawE
import Derived.Test.YtaalhmaacaahhaaSpecW
import Derived.Test.YtaalhmaacaahhaaInfoRoom
namespace Go.Proofs.Ytaalhmaacaahhaa
open Go.RowKit

theorem Try.infoCabin : (Try.prog.info? 85).map (fun i => (i.zero, i.size, i.bytes)) = some (some (.agg #[.int .i64 0, .int .i64 0]), 2, 16) := by kernel_rfl
/-- Cabins that were drawn: a row of its own. -/
def CabsOwn (w : World) (base : Nat) (v : Value) : Prop := ∃ (p : Pairs), p.n ≤ 6 ∧ w.ownsRow base 85 2 v p.n (pairList p p.n)
theorem CabsOwn.kept {w w' : World} {base cb : Nat} {v : Value} (h : CabsOwn w base v) (hk : Kept w w' (fun b => b = cb)) (hlt : cb < base) : CabsOwn w' base v := by
  obtain ⟨p, hp, ho⟩ := h
  exact ⟨p, hp, own_kept ho hk hlt⟩
theorem CabsOwn.below {w w' : World} {base : Nat} {v : Value} (h : CabsOwn w base v) (hb : Below w.heap.size w w') : CabsOwn w' base v := by
  obtain ⟨p, hp, ho⟩ := h
  exact ⟨p, hp, own_below hb ho⟩
theorem CabsOwn.base {w : World} {base base' : Nat} {v : Value} (h : CabsOwn w base v) (hb : base' ≤ base) : CabsOwn w base' v := by
  obtain ⟨p, hp, ho⟩ := h
  exact ⟨p, hp, own_base ho hb⟩
/-- Rooms that were drawn: a row of its own. -/
def RoomsOwn (w : World) (base z : Nat) (v : Value) : Prop := ∃ (S : Nat → Room) (k : Nat), k ≤ z ∧ w.ownsRow base 174 4 v k (roomList S k)
theorem RoomsOwn.kept {w w' : World} {base z cb : Nat} {v : Value} (h : RoomsOwn w base z v) (hk : Kept w w' (fun b => b = cb)) (hlt : cb < base) : RoomsOwn w' base z v := by
  obtain ⟨S, k, hk1, ho⟩ := h
  exact ⟨S, k, hk1, own_kept ho hk hlt⟩
theorem RoomsOwn.below {w w' : World} {base z : Nat} {v : Value} (h : RoomsOwn w base z v) (hb : Below w.heap.size w w') : RoomsOwn w' base z v := by
  obtain ⟨S, k, hk1, ho⟩ := h
  exact ⟨S, k, hk1, own_below hb ho⟩
theorem RoomsOwn.base {w : World} {base base' z : Nat} {v : Value} (h : RoomsOwn w base z v) (hb : base' ≤ base) : RoomsOwn w base' z v := by
  obtain ⟨S, k, hk1, ho⟩ := h
  exact ⟨S, k, hk1, own_base ho hb⟩
theorem RoomsOwn.more {w : World} {base z z' : Nat} {v : Value} (h : RoomsOwn w base z v) (hz : z ≤ z') : RoomsOwn w base z' v := by
  obtain ⟨S, k, hk1, ho⟩ := h
  exact ⟨S, k, by omega, ho⟩

theorem classOf_any (cb : Nat) (ao : Option Addr) (n c a : Nat) (w : World) (ha : a ≤ 800000000000000000) (h : CurIs w cb ao n c a) :
    Calls Try.prog 110 #[.pointer (some ⟨cb, 0, none⟩)] w fun e w' => (∃ x : Int, e = .returned (.int .i64 x)) ∧ CurIs w' cb ao n c (a + 10) ∧ Kept w w' (fun b => b = cb) := by
  go_enter Try.func110, Try.ntmps110
  go_wp2_with fail
  refine (one_any cb ao n c a 20 _ (by omega) (by omega) (by omega) h).mono ?_
  rintro e w1 ⟨⟨q, rfl⟩, hc1, hk1⟩
  cases q with
  | true =>
    go_wp2_with fail
    refine (amongL cb ao n c (a + 2) 3 [0, 3, 4] _ rfl (by omega) (by omega) (by omega) (hc1.below (push (Below.refl _ _) _)) w1.heap.size (heap_alloc_new w1 _) (by have := hc1.lt; omega)).mono ?_
    rintro e w2 ⟨⟨x, rfl⟩, hc2, hk2⟩
    go_wp2
    go_ret
    exact ⟨⟨x, rfl⟩, hc2.more (by omega), hk1.trans ((Kept.of_below (push (Below.refl _ _) _)).trans hk2)⟩
  | false =>
    go_wp2_with fail
    refine (pick_any cb ao n c (a + 2) 2 _ (by omega) (by omega) (by omega) hc1).mono ?_
    rintro e w2 ⟨⟨r, rfl, hr⟩, hc2, hk2⟩
    go_wp2
    go_ret
    exact ⟨⟨_, rfl⟩, hc2.more (by omega), hk1.trans hk2⟩

set_option maxHeartbeats 1600000 in
set_option maxRecDepth 100000 in
theorem cabinsOf_any (cb : Nat) (ao : Option Addr) (n c a : Nat) (w : World) (ha : a ≤ 700000000000000000) (h : CurIs w cb ao n c a) :
    Calls Try.prog 159 #[.pointer (some ⟨cb, 0, none⟩)] w fun e w' => (∃ v, e = .returned v ∧ CabsOwn w' w.heap.size v) ∧ CurIs w' cb ao n c (a + 40) ∧ Kept w w' (fun b => b = cb) := by
  obtain ⟨j0, ji, jz0, jz1, jz2⟩ := info_parts Try.infoCabin
  have hcb := h.lt
  have HCL : Hid (∀ k, k < n → ∀ b off, ao = some ⟨b, off, none⟩ → b < w.heap.size) := h.code_lt
  go_enter Try.func159, Try.ntmps159
  go_wp2_with fail
  refine (pick_any cb ao n c a 6 _ (by omega) (by omega) (by omega) h).mono ?_
  rintro e w1 ⟨⟨r, rfl, hr⟩, hc1, hk1⟩
  clear h
  go_wp2
  go_loopw [3, 4] (fun v i wr => ∃ (t : Nat) (p : Pairs), i = .int .i64 t ∧ t + p.n ≤ 5 ∧ wr.ownsRow w.heap.size 85 2 v p.n (pairList p p.n) ∧ CurIs wr cb ao n c (a + 2 + 4 * p.n) ∧ Kept w wr (fun b => b = cb)) (fun _ i _ => (intOf i).toNat)
  case atStart => exact ⟨r, ⟨0, fun _ => 0, fun _ => 0⟩, rfl, by show r + 0 ≤ 5; omega, ⟨rfl, .inl ⟨rfl, rfl⟩⟩, hc1, hk1⟩
  case round =>
    obtain ⟨t, p, rfl, ht, hown, hc, hk⟩ := hrel
    clear hc1 hk1
    obtain ⟨k, hpk⟩ : ∃ k, k = p.n := ⟨_, rfl⟩
    rw [← hpk] at ht hown hc
    have HPK : Hid (k = p.n) := hpk
    clear hpk
    by_cases h0 : t = 0
    · subst h0
      go_wp2_with fail
      refine (one_any cb ao n c (a + 2 + 4 * k) 30 _ (by omega) (by omega) (by omega) hc).mono ?_
      rintro e w2 ⟨⟨q, rfl⟩, hc2, hk2⟩
      have hown2 := own_kept hown hk2 hcb
      have hk2' := hk.trans hk2
      clear hown hk2 hk hc
      cases q with
      | false =>
        go_wp2
        go_ret
        exact ⟨⟨_, rfl, p, by rw [← HPK.out]; omega, by rw [← HPK.out]; exact hown2⟩, hc2.more (by omega), hk2'⟩
      | true =>
        go_wp2_with fail
        refine (pick_any cb ao n c (a + 2 + 4 * k + 2) 5 _ (by omega) (by omega) (by omega) hc2).mono ?_
        rintro e w3 ⟨⟨x, rfl, hx5⟩, hc3, hk3⟩
        have hown3 := own_kept hown2 hk3 hcb
        have hk3' := hk2'.trans hk3
        clear hown2 hk3 hk2' hc2
        go_wp2_with fail
        refine (pick_any cb ao n c (a + 2 + 4 * k + 2 + 2) 6 _ (by omega) (by omega) (by omega) hc3).mono ?_
        rintro e w4 ⟨⟨y, rfl, hy6⟩, hc4, hk4⟩
        have hown4 := own_kept hown3 hk4 hcb
        have hk4' := hk3'.trans hk4
        clear hown3 hk4 hk3' hc3
        have hs4 := hk4'.size
        have HC : Hid (∀ ad, (some ⟨w4.heap.size, 0, none⟩ : Option Addr) = some ad → ∀ j u, [Value.int .i64 (x : Int), .int .i64 (y : Int)][j]? = some u → (w4.alloc (.cells #[.int .i64 (x : Int), .int .i64 (y : Int)] 85)).cell? (ad.add j) = some u) := by
          intro ad e
          cases e
          exact World.news_of_block (heap_alloc_new w4 _)
        go_wp2_with (first | (at_builtin; refine wpList_append_any _ (by rfl) (.tmp 23) (.tmp 29) 60 (by rfl) w.heap.size 85 j0 (.agg #[.int .i64 0, .int .i64 0]) 2 16 Try.underlying60 ji jz0 jz1 jz2 rfl (by decide) _ k (pairList p k) (by rfl) (hown4.alloc _) (some ⟨w4.heap.size, 0, none⟩) 1 1 [.int .i64 (x : Int), .int .i64 (y : Int)] (by rfl) (fun h => (by cases h)) (by rfl) HC.out (by intro u hu; simp at hu; rcases hu with rfl | rfl <;> rfl) (by unfold maxLen; omega) (by omega) (by simp; omega) ?_; intro v' w9 ho9 hg9))
        go_ret
        refine ⟨⟨_, rfl, ⟨k + 1, fun i => if i = k then (x : Int) else p.A i, fun i => if i = k then (y : Int) else p.B i⟩, by show k + 1 ≤ 6; omega, by rw [pairList_more]; exact ho9⟩, ?_, ?_⟩
        · exact (cur_grow (hc4.below (push (Below.refl _ _) _)) hg9 (fun b hb => (hown4.lt b hb).1) hcb HCL.out).more (by omega)
        · exact kept_grow (hk4'.trans (Kept.of_below (push (Below.refl _ _) _))) hg9 (fun b hb => (hown4.lt b hb).1)
    · have d0 : decide ((0 : Int) < (t : Int)) = true := by simp; omega
      go_wp2_with fail
      refine (pick_any cb ao n c (a + 2 + 4 * k) 2 _ (by omega) (by omega) (by omega) hc).mono ?_
      rintro e w2 ⟨⟨r2, rfl, hr2⟩, hc2, hk2⟩
      have hown2 := own_kept hown hk2 hcb
      have hk2' := hk.trans hk2
      clear hown hk2 hk hc
      have hw1 : IntKind.i64.wrap (1 + (r2 : Int)) = 1 + (r2 : Int) := by rw [IntKind.wrap_i64]; omega
      go_wp2_with fail
      refine (pick_any cb ao n c (a + 2 + 4 * k + 2) 4 _ (by omega) (by omega) (by omega) hc2).mono ?_
      rintro e w3 ⟨⟨y, rfl, hy4⟩, hc3, hk3⟩
      have hown3 := own_kept hown2 hk3 hcb
      have hk3' := hk2'.trans hk3
      clear hown2 hk3 hk2' hc2
      have hs3 := hk3'.size
      have hw2 : IntKind.i64.wrap (1 + (y : Int)) = 1 + (y : Int) := by rw [IntKind.wrap_i64]; omega
      have hwt : IntKind.i64.wrap ((t : Int) - 1) = ((t - 1 : Nat) : Int) := by rw [IntKind.wrap_i64]; omega
      have HC : Hid (∀ ad, (some ⟨w3.heap.size, 0, none⟩ : Option Addr) = some ad → ∀ j u, [Value.int .i64 (1 + (r2 : Int)), .int .i64 (1 + (y : Int))][j]? = some u → (w3.alloc (.cells #[.int .i64 (1 + (r2 : Int)), .int .i64 (1 + (y : Int))] 85)).cell? (ad.add j) = some u) := by
        intro ad e
        cases e
        exact World.news_of_block (heap_alloc_new w3 _)
      go_wp2_with (first | (at_builtin; refine wpList_append_any _ (by rfl) (.tmp 11) (.tmp 19) 60 (by rfl) w.heap.size 85 j0 (.agg #[.int .i64 0, .int .i64 0]) 2 16 Try.underlying60 ji jz0 jz1 jz2 rfl (by decide) _ k (pairList p k) (by rfl) (hown3.alloc _) (some ⟨w3.heap.size, 0, none⟩) 1 1 [.int .i64 (1 + (r2 : Int)), .int .i64 (1 + (y : Int))] (by rfl) (fun h => (by cases h)) (by rfl) HC.out (by intro u hu; simp at hu; rcases hu with rfl | rfl <;> rfl) (by unfold maxLen; omega) (by omega) (by simp; omega) ?_; intro v' w9 ho9 hg9))
      go_roundw
      case rel =>
        refine ⟨t - 1, ⟨k + 1, fun i => if i = k then 1 + (r2 : Int) else p.A i, fun i => if i = k then 1 + (y : Int) else p.B i⟩, by go_num, by show t - 1 + (k + 1) ≤ 5; omega, by rw [pairList_more]; exact ho9, ?_, ?_⟩
        · exact (cur_grow (hc3.below (push (Below.refl _ _) _)) hg9 (fun b hb => (hown3.lt b hb).1) hcb HCL.out).more (by show a + 2 + 4 * k + 2 + 2 ≤ a + 2 + 4 * (k + 1); omega)
        · exact kept_grow (hk3'.trans (Kept.of_below (push (Below.refl _ _) _))) hg9 (fun b hb => (hown3.lt b hb).1)
      case measure => simp [intOf]; omega

end Go.Proofs.Ytaalhmaacaahhaa
