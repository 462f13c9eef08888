/-
  OWN TEXT: contracts of the drawing of a deck, second part: deckOf, DrawPlaceCar.
-/
import Derived.Test.YtaalhmaacaahhaaDrawD
namespace Go.Proofs.Ytaalhmaacaahhaa
open Go.RowKit

/-- Stays that were drawn: a row of its own. -/
def StaysOwn (w : World) (base z : Nat) (v : Value) : Prop := ∃ (S : Nat → Stay) (k : Nat), k ≤ z ∧ w.ownsRow base 72 4 v k (stayList S k)
theorem StaysOwn.kept {w w' : World} {base z cb : Nat} {v : Value} (h : StaysOwn w base z v) (hk : Kept w w' (fun b => b = cb)) (hlt : cb < base) : StaysOwn w' base z v := by
  obtain ⟨S, k, hk1, ho⟩ := h
  exact ⟨S, k, hk1, own_kept ho hk hlt⟩
theorem LanesOwn.kept {w w' : World} {base cb : Nat} {v : Value} (h : LanesOwn w base v) (hk : Kept w w' (fun b => b = cb)) (hlt : cb < base) : LanesOwn w' base v := by
  obtain ⟨p, hp, ho⟩ := h
  exact ⟨p, hp, own_kept ho hk hlt⟩
theorem StaysOwn.below {w w' : World} {base z : Nat} {v : Value} (h : StaysOwn w base z v) (hb : Below w.heap.size w w') : StaysOwn w' base z v := by
  obtain ⟨S, k, hk1, ho⟩ := h
  exact ⟨S, k, hk1, own_below hb ho⟩
theorem LanesOwn.below {w w' : World} {base : Nat} {v : Value} (h : LanesOwn w base v) (hb : Below w.heap.size w w') : LanesOwn w' base v := by
  obtain ⟨p, hp, ho⟩ := h
  exact ⟨p, hp, own_below hb ho⟩
theorem StaysOwn.base {w : World} {base base' z : Nat} {v : Value} (h : StaysOwn w base z v) (hb : base' ≤ base) : StaysOwn w base' z v := by
  obtain ⟨S, k, hk1, ho⟩ := h
  exact ⟨S, k, hk1, own_base ho hb⟩
theorem LanesOwn.base {w : World} {base base' : Nat} {v : Value} (h : LanesOwn w base v) (hb : base' ≤ base) : LanesOwn w base' v := by
  obtain ⟨p, hp, ho⟩ := h
  exact ⟨p, hp, own_base ho hb⟩
theorem StaysOwn.more {w : World} {base z z' : Nat} {v : Value} (h : StaysOwn w base z v) (hz : z ≤ z') : StaysOwn w base z' v := by
  obtain ⟨S, k, hk1, ho⟩ := h
  exact ⟨S, k, by omega, ho⟩

theorem own_grown {w w1 : World} {row : Option Nat} {base e size n : Nat} {v : Value} {xs : List Value} (h : w.ownsRow base e size v n xs) (hg : w.grownBy w1 row) (ha : ∀ g, v.ownBlock = some g → row ≠ some g) : w1.ownsRow base e size v n xs :=
  (⟨hg.os, hg.tape, hg.output, hg.size, fun i hi hn => hg.block i hi (fun e => hn e.symm)⟩ : Kept w w1 (fun b => row = some b)).own h ha

set_option maxHeartbeats 3200000 in
set_option maxRecDepth 100000 in
theorem deckOf_any (cb : Nat) (ao : Option Addr) (n c a : Nat) (w : World) (ha : a ≤ 600000000000000000) (h : CurIs w cb ao n c a) :
    Calls Try.prog 97 #[.pointer (some ⟨cb, 0, none⟩)] w fun e w' => (∃ vl vs, e = .returned (.tuple #[vl, vs]) ∧ LanesOwn w' w.heap.size vl ∧ StaysOwn w' w.heap.size 61 vs) ∧ CurIs w' cb ao n c (a + 200) ∧ Kept w w' (fun b => b = cb) := by
  obtain ⟨j0, ji, jz0, jz1, jz2⟩ := info_parts Try.infoStay
  have hcb := h.lt
  have HCL : Hid (∀ k, k < n → ∀ b off, ao = some ⟨b, off, none⟩ → b < w.heap.size) := h.code_lt
  go_enter Try.func97, Try.ntmps97
  go_wp2_with fail
  refine (lanes_any cb ao n c a _ (by omega) h).mono ?_
  rintro e w1 ⟨⟨vl, rfl, hl1⟩, hc1, hk1⟩
  go_wp2_with fail
  refine (pick_any cb ao n c (a + 40) 9 _ (by omega) (by omega) (by omega) hc1).mono ?_
  rintro e w2 ⟨⟨r, rfl, hr⟩, hc2, hk2⟩
  have hl2 := hl1.kept hk2 hcb
  have hk2' := hk1.trans hk2
  clear h hc1 hk1 hl1 hk2
  go_wp2
  go_loopw [5, 6] (fun v i wr => ∃ (t : Nat), i = .int .i64 t ∧ t ≤ 8 ∧ StaysOwn wr w.heap.size 60 v ∧ LanesOwn wr w.heap.size vl ∧ CurIs wr cb ao n c (a + 42 + 12 * (8 - t)) ∧ Kept w wr (fun b => b = cb)) (fun _ i _ => (intOf i).toNat)
  case atStart => exact ⟨r, rfl, by omega, ⟨fun _ => Stay.zero, 0, Nat.zero_le _, rfl, .inl ⟨rfl, rfl⟩⟩, hl2, hc2.more (by omega), hk2'⟩
  case round =>
    obtain ⟨t, rfl, ht, hs, hl, hc, hk⟩ := hrel
    clear hc2 hk2' hl2
    by_cases h0 : t = 0
    · subst h0
      go_wp2_with fail
      refine (one_any cb ao n c (a + 42 + 12 * (8 - 0)) 30 _ (by omega) (by omega) (by omega) hc).mono ?_
      rintro e w3 ⟨⟨q, rfl⟩, hc3, hk3⟩
      have hs3 := hs.kept hk3 hcb
      have hl3 := hl.kept hk3 hcb
      have hk3' := hk.trans hk3
      clear hs hl hk hc hk3
      cases q with
      | false =>
        go_wp2
        exact bodyPost_ret (v := .tuple #[vl, u5]) (by simp [results, Try.results97, go_sem]) rfl ⟨⟨_, _, rfl, hl3, hs3.more (by omega)⟩, hc3.more (by omega), hk3'⟩
      | true =>
        go_wp2_with fail
        refine (amongL cb ao n c (a + 42 + 12 * (8 - 0) + 2) 4 [0, 1, 9999, 10000] _ rfl (by omega) (by omega) (by omega) (hc3.below (push (Below.refl _ _) _)) w3.heap.size (heap_alloc_new w3 _) (by have := hc3.lt; omega)).mono ?_
        rintro e w4 ⟨⟨x, rfl⟩, hc4, hk4⟩
        have hs4 := (hs3.below (push (Below.refl _ _) _)).kept hk4 hcb
        have hl4 := (hl3.below (push (Below.refl _ _) _)).kept hk4 hcb
        have hk4' := hk3'.trans ((Kept.of_below (push (Below.refl _ _) _)).trans hk4)
        clear hs3 hl3 hk4 hk3' hc3
        go_wp2_with fail
        refine (pick_any cb ao n c (a + 42 + 12 * (8 - 0) + 2 + 2) 6 _ (by omega) (by omega) (by omega) hc4).mono ?_
        rintro e w5 ⟨⟨r, rfl, hr⟩, hc5, hk5⟩
        have hs5 := hs4.kept hk5 hcb
        have hl5 := hl4.kept hk5 hcb
        have hk5' := hk4'.trans hk5
        clear hs4 hl4 hk5 hk4' hc4
        have hz5 := hk5'.size
        have hwr : IntKind.i64.wrap ((r : Int) - 1) = (r : Int) - 1 := by rw [IntKind.wrap_i64]; omega
        obtain ⟨S, k, hk60, hown⟩ := hs5
        have HC : Hid (∀ ad, (some ⟨w5.heap.size, 0, none⟩ : Option Addr) = some ad → ∀ j u, [Value.int .i64 x, .int .i64 ((r : Int) - 1), .int .i64 100, .int .i64 100][j]? = some u → (w5.alloc (.cells #[.int .i64 x, .int .i64 ((r : Int) - 1), .int .i64 100, .int .i64 100] 72)).cell? (ad.add j) = some u) := by
          intro ad e
          cases e
          exact World.news_of_block (heap_alloc_new w5 _)
        go_wp2_with (first | (at_builtin; refine wpList_append_any _ (by rfl) (.tmp 41) (.tmp 49) 65 (by rfl) w.heap.size 72 j0 (.agg #[.int .i64 0, .int .i64 0, .int .i64 0, .int .i64 0]) 4 32 Try.underlying65 ji jz0 jz1 jz2 rfl (by decide) _ k (stayList S k) (by rfl) (hown.alloc _) (some ⟨w5.heap.size, 0, none⟩) 1 1 [.int .i64 x, .int .i64 ((r : Int) - 1), .int .i64 100, .int .i64 100] (by rfl) (fun h => (by cases h)) (by rfl) HC.out (by intro u hu; simp at hu; rcases hu with rfl | rfl | rfl | rfl <;> rfl) (by unfold maxLen; omega) (by omega) (by simp; omega) ?_; intro v' w9 ho9 hg9))
        refine bodyPost_ret (v := .tuple #[vl, v']) (by simp [results, Try.results97, go_sem]) rfl ⟨⟨_, _, rfl, ?_, ⟨stayCat S k (fun _ => ⟨x, (r : Int) - 1, 100, 100⟩), k + 1, by omega, ?_⟩⟩, ?_, ?_⟩
        · obtain ⟨p, hp, hop⟩ := hl5.below (push (Below.refl _ w5) (.cells #[.int .i64 x, .int .i64 ((r : Int) - 1), .int .i64 100, .int .i64 100] 72))
          refine ⟨p, hp, ?_⟩
          exact own_grown hop hg9 (fun g hg e => own_apart hop (hown.alloc _) (by decide) g hg e)
        · rw [stayList_cat, stayList_succ, show stayList (fun _ => (⟨x, (r : Int) - 1, 100, 100⟩ : Stay)) 0 = [] from rfl, List.nil_append]
          exact ho9
        · exact (cur_grow (hc5.below (push (Below.refl _ _) _)) hg9 (fun b hb => (hown.lt b hb).1) hcb HCL.out).more (by omega)
        · exact kept_grow (hk5'.trans (Kept.of_below (push (Below.refl _ _) _))) hg9 (fun b hb => (hown.lt b hb).1)
    · have d0 : decide ((0 : Int) < (t : Int)) = true := by simp; omega
      have hwt : IntKind.i64.wrap ((t : Int) - 1) = ((t - 1 : Nat) : Int) := by rw [IntKind.wrap_i64]; omega
      go_wp2_with fail
      refine (carOf_any cb ao n c (a + 42 + 12 * (8 - t)) _ (by omega) hc).mono ?_
      rintro e w3 ⟨⟨x, y, rfl⟩, hc3, hk3⟩
      have hs3 := hs.kept hk3 hcb
      have hl3 := hl.kept hk3 hcb
      have hk3' := hk.trans hk3
      clear hs hl hk hc hk3
      go_wp2_with fail
      refine (pick_any cb ao n c (a + 42 + 12 * (8 - t) + 10) 12 _ (by omega) (by omega) (by omega) hc3).mono ?_
      rintro e w4 ⟨⟨r, rfl, hr⟩, hc4, hk4⟩
      have hs4 := hs3.kept hk4 hcb
      have hl4 := hl3.kept hk4 hcb
      have hk4' := hk3'.trans hk4
      clear hs3 hl3 hk4 hk3' hc3
      obtain ⟨S, k, hk60, hown⟩ := hs4
      obtain ⟨p, hp5, hop⟩ := hl4
      obtain ⟨sa, sc, es, hn1, _, hn3⟩ := own_form hown
      obtain ⟨la, lc, rfl, _⟩ := own_form hop
      have HS : Hid (u5 = .slice sa k sc) := es
      subst es
      have HOP : Hid (w4.ownsRow w.heap.size 74 2 (.slice la p.n lc) p.n (pairList p p.n)) := hop
      have HON : Hid (w4.ownsRow w.heap.size 72 4 (.slice sa k sc) k (stayList S k)) := hown
      clear hown hop
      go_wp2_with fail
      refine (specPlace_any la sa p.n lc k sc p S _ _ _ _ rfl (by omega) (by omega) hn1 (pairs_of_own rfl HOP.out) (stays_of_own HON.out) hn3).mono ?_
      rintro e w5 ⟨⟨v5, rfl, ho5⟩, hb5⟩
      have hl5 : LanesOwn w5 w.heap.size (.slice la p.n lc) := ⟨p, hp5, own_below hb5 HOP.out⟩
      have hs5 : StaysOwn w5 w.heap.size 60 (.slice sa k sc) := ⟨S, k, hk60, own_below hb5 HON.out⟩
      have hv5 : StaysOwn w5 w.heap.size 60 v5 := ⟨_, _, placeLen_le _ _ _ _ _ _, own_base ho5 hk4'.size⟩
      have hc5 := hc4.below hb5
      have hk5 := hk4'.trans (Kept.of_below hb5)
      clear hk4' hc4 hb5 HOP HON ho5
      cases hok : placeOk p k S (1 + (r : Int)) x y with
      | true =>
        go_wp2
        go_roundw
        case rel => exact ⟨t - 1, by go_num, by omega, hv5, hl5, hc5.more (by omega), hk5⟩
        case measure => simp [intOf]; omega
      | false =>
        go_wp2
        go_roundw
        case rel => exact ⟨t - 1, by go_num, by omega, hs5, hl5, hc5.more (by omega), hk5⟩
        case measure => simp [intOf]; omega

set_option maxHeartbeats 1600000 in
set_option maxRecDepth 100000 in
theorem drawPlace_any (ao : Option Addr) (n c : Nat) (w : World) (h : BytesAt w ao n) :
    Calls Try.prog 29 #[.slice ao n c] w fun e w' => (∃ vl vs x len hei, e = .returned (.tuple #[vl, vs, .int .i64 x, .int .i64 len, .int .i64 hei]) ∧ LanesOwn w' w.heap.size vl ∧ StaysOwn w' w.heap.size 61 vs) ∧ Below w.heap.size w w' := by
  have hc0 := cur_new (c := c) h
  have hb0 : Below w.heap.size w (w.alloc (.cells #[.slice ao n c, .int .i64 0, .int .u64 0] 90)) := push (Below.refl _ _) _
  have hsz : (w.alloc (.cells #[.slice ao n c, .int .i64 0, .int .u64 0] 90)).heap.size = w.heap.size + 1 := by simp
  go_enter Try.func29, Try.ntmps29
  go_wp2_with fail
  generalize w.alloc (.cells #[.slice ao n c, .int .i64 0, .int .u64 0] 90) = w0 at hc0 hb0 hsz ⊢
  refine (deckOf_any w.heap.size ao n c 0 _ (by omega) hc0).mono ?_
  rintro e w1 ⟨⟨vl, vs, rfl, hl1, hs1⟩, hc1, hk1⟩
  clear hc0
  go_wp2_with fail
  refine (carOf_any w.heap.size ao n c (0 + 200) _ (by omega) hc1).mono ?_
  rintro e w2 ⟨⟨len, hei, rfl⟩, hc2, hk2⟩
  have hl2 := hl1.kept hk2 (by omega)
  have hs2 := hs1.kept hk2 (by omega)
  have hk2' := hk1.trans hk2
  clear hl1 hs1 hk1 hk2 hc1
  go_wp2_with fail
  refine (by_any w.heap.size ao n c (0 + 200 + 10) _ (by omega) hc2).mono ?_
  rintro e w3 ⟨⟨x, rfl⟩, hc3, hk3⟩
  have hl3 := hl2.kept hk3 (by omega)
  have hs3 := hs2.kept hk3 (by omega)
  have hk3' := hk2'.trans hk3
  clear hl2 hs2 hk2' hk3 hc2
  go_wp2
  exact bodyPost_ret (v := .tuple #[vl, vs, .int .i64 x, .int .i64 len, .int .i64 hei]) (by simp [results, Try.results29, go_sem]) rfl ⟨⟨vl, vs, x, len, hei, rfl, hl3.base (by omega), hs3.base (by omega)⟩, Kept.below hb0 (by omega) hk3' (fun b hb => by omega)⟩

end Go.Proofs.Ytaalhmaacaahhaa
