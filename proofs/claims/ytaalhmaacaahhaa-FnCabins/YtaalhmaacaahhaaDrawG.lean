/-
  OWN TEXT: contracts of the drawing of rooms, second part: roomsOf, DrawPlaceWhole, DrawPlaceBerths.
-/
import Derived.Test.YtaalhmaacaahhaaDrawF
namespace Go.Proofs.Ytaalhmaacaahhaa
open Go.RowKit

set_option maxHeartbeats 3200000 in
set_option maxRecDepth 100000 in
theorem roomsOf_any (cb : Nat) (ao : Option Addr) (n c a : Nat) (w : World) (ha : a ≤ 600000000000000000) (h : CurIs w cb ao n c a) :
    Calls Try.prog 109 #[.pointer (some ⟨cb, 0, none⟩)] w fun e w' => (∃ vl vs, e = .returned (.tuple #[vl, vs]) ∧ CabsOwn w' w.heap.size vl ∧ RoomsOwn w' w.heap.size 61 vs) ∧ CurIs w' cb ao n c (a + 200) ∧ Kept w w' (fun b => b = cb) := by
  obtain ⟨j0, ji, jz0, jz1, jz2⟩ := info_parts Try.infoRoom
  have hcb := h.lt
  have HCL : Hid (∀ k, k < n → ∀ b off, ao = some ⟨b, off, none⟩ → b < w.heap.size) := h.code_lt
  go_enter Try.func109, Try.ntmps109
  go_wp2_with fail
  refine (cabinsOf_any cb ao n c a _ (by omega) h).mono ?_
  rintro e w1 ⟨⟨vl, rfl, hl1⟩, hc1, hk1⟩
  go_wp2_with fail
  refine (pick_any cb ao n c (a + 40) 7 _ (by omega) (by omega) (by omega) hc1).mono ?_
  rintro e w2 ⟨⟨r, rfl, hr⟩, hc2, hk2⟩
  have hl2 := hl1.kept hk2 hcb
  have hk2' := hk1.trans hk2
  clear h hc1 hk1 hl1 hk2
  go_wp2
  go_loopw [5, 6, 7, 8, 9] (fun v i _ _ _ wr => ∃ (t : Nat), i = .int .i64 t ∧ t ≤ 6 ∧ RoomsOwn wr w.heap.size 60 v ∧ CabsOwn wr w.heap.size vl ∧ CurIs wr cb ao n c (a + 42 + 14 * (6 - t)) ∧ Kept w wr (fun b => b = cb)) (fun _ i _ _ _ _ => (intOf i).toNat)
  case atStart => exact ⟨r, rfl, by omega, ⟨fun _ => Room.zero, 0, Nat.zero_le _, rfl, .inl ⟨rfl, rfl⟩⟩, hl2, hc2.more (by omega), hk2'⟩
  case round =>
    obtain ⟨t, rfl, ht, hs, hl, hc, hk⟩ := hrel
    clear hc2 hk2' hl2
    by_cases h0 : t = 0
    · subst h0
      go_wp2_with fail
      refine (one_any cb ao n c (a + 42 + 14 * (6 - 0)) 30 _ (by omega) (by omega) (by omega) hc).mono ?_
      rintro e w3 ⟨⟨q, rfl⟩, hc3, hk3⟩
      have hs3 := hs.kept hk3 hcb
      have hl3 := hl.kept hk3 hcb
      have hk3' := hk.trans hk3
      clear hs hl hk hc hk3
      cases q with
      | false =>
        go_wp2
        exact bodyPost_ret (v := .tuple #[vl, u5]) (by simp [results, Try.results109, go_sem]) rfl ⟨⟨_, _, rfl, hl3, hs3.more (by omega)⟩, hc3.more (by omega), hk3'⟩
      | true =>
        go_wp2_with fail
        refine (amongL cb ao n c (a + 42 + 14 * (6 - 0) + 2) 4 [0, 1, 9999, 10000] _ rfl (by omega) (by omega) (by omega) (hc3.below (push (Below.refl _ _) _)) w3.heap.size (heap_alloc_new w3 _) (by have := hc3.lt; omega)).mono ?_
        rintro e w4 ⟨⟨x, rfl⟩, hc4, hk4⟩
        have hs4 := (hs3.below (push (Below.refl _ _) _)).kept hk4 hcb
        have hl4 := (hl3.below (push (Below.refl _ _) _)).kept hk4 hcb
        have hk4' := hk3'.trans ((Kept.of_below (push (Below.refl _ _) _)).trans hk4)
        clear hs3 hl3 hk4 hk3' hc3
        go_wp2_with fail
        refine (pick_any cb ao n c (a + 42 + 14 * (6 - 0) + 2 + 2) 7 _ (by omega) (by omega) (by omega) hc4).mono ?_
        rintro e w5 ⟨⟨r, rfl, hr⟩, hc5, hk5⟩
        have hs5 := hs4.kept hk5 hcb
        have hl5 := hl4.kept hk5 hcb
        have hk5' := hk4'.trans hk5
        clear hs4 hl4 hk5 hk4' hc4
        have hwr : IntKind.i64.wrap ((r : Int) - 1) = (r : Int) - 1 := by rw [IntKind.wrap_i64]; omega
        go_wp2_with fail
        refine (pick_any cb ao n c (a + 42 + 14 * (6 - 0) + 2 + 2 + 2) 6 _ (by omega) (by omega) (by omega) hc5).mono ?_
        rintro e w6 ⟨⟨y, rfl, hy⟩, hc6, hk6⟩
        have hs6 := hs5.kept hk6 hcb
        have hl6 := hl5.kept hk6 hcb
        have hk6' := hk5'.trans hk6
        clear hs5 hl5 hk6 hk5' hc5
        go_wp2_with fail
        refine (one_any cb ao n c (a + 42 + 14 * (6 - 0) + 2 + 2 + 2 + 2) 2 _ (by omega) (by omega) (by omega) hc6).mono ?_
        rintro e w7 ⟨⟨al, rfl⟩, hc7, hk7⟩
        have hs7 := hs6.kept hk7 hcb
        have hl7 := hl6.kept hk7 hcb
        have hk7' := hk6'.trans hk7
        clear hs6 hl6 hk7 hk6' hc6
        have hz7 := hk7'.size
        obtain ⟨S, k, hk60, hown⟩ := hs7
        have HC : Hid (∀ ad, (some ⟨w7.heap.size, 0, none⟩ : Option Addr) = some ad → ∀ j u, [Value.int .i64 x, .int .i64 ((r : Int) - 1), .int .i64 (y : Int), .bool al][j]? = some u → (w7.alloc (.cells #[.int .i64 x, .int .i64 ((r : Int) - 1), .int .i64 (y : Int), .bool al] 174)).cell? (ad.add j) = some u) := by
          intro ad e
          cases e
          exact World.news_of_block (heap_alloc_new w7 _)
        go_wp2_with (first | (at_builtin; refine wpList_append_any _ (by rfl) (.tmp 56) (.tmp 68) 78 (by rfl) w.heap.size 174 j0 (.agg #[.int .i64 0, .int .i64 0, .int .i64 0, .bool false]) 4 32 Try.underlying78 ji jz0 jz1 jz2 rfl (by decide) _ k (roomList S k) (by rfl) (hown.alloc _) (some ⟨w7.heap.size, 0, none⟩) 1 1 [.int .i64 x, .int .i64 ((r : Int) - 1), .int .i64 (y : Int), .bool al] (by rfl) (fun h => (by cases h)) (by rfl) HC.out (by intro u hu; simp at hu; rcases hu with rfl | rfl | rfl | rfl <;> rfl) (by unfold maxLen; omega) (by omega) (by simp; omega) ?_; intro v' w9 ho9 hg9))
        refine bodyPost_ret (v := .tuple #[vl, v']) (by simp [results, Try.results109, go_sem]) rfl ⟨⟨_, _, rfl, ?_, ⟨roomCat S k (fun _ => ⟨x, (r : Int) - 1, (y : Int), al⟩), k + 1, by omega, ?_⟩⟩, ?_, ?_⟩
        · obtain ⟨p, hp, hop⟩ := hl7.below (push (Below.refl _ w7) (.cells #[.int .i64 x, .int .i64 ((r : Int) - 1), .int .i64 (y : Int), .bool al] 174))
          refine ⟨p, hp, ?_⟩
          exact own_grown hop hg9 (fun g hg e => own_apart hop (hown.alloc _) (by decide) g hg e)
        · rw [roomList_cat, roomList_succ, show roomList (fun _ => (⟨x, (r : Int) - 1, (y : Int), al⟩ : Room)) 0 = [] from rfl, List.nil_append]
          exact ho9
        · exact (cur_grow (hc7.below (push (Below.refl _ _) _)) hg9 (fun b hb => (hown.lt b hb).1) hcb HCL.out).more (by omega)
        · exact kept_grow (hk7'.trans (Kept.of_below (push (Below.refl _ _) _))) hg9 (fun b hb => (hown.lt b hb).1)
    · have d0 : decide ((0 : Int) < (t : Int)) = true := by simp; omega
      have hwt : IntKind.i64.wrap ((t : Int) - 1) = ((t - 1 : Nat) : Int) := by rw [IntKind.wrap_i64]; omega
      go_wp2_with fail
      refine (pick_any cb ao n c (a + 42 + 14 * (6 - t)) 12 _ (by omega) (by omega) (by omega) hc).mono ?_
      rintro e w3 ⟨⟨r1, rfl, hr1⟩, hc3, hk3⟩
      have hs3 := hs.kept hk3 hcb
      have hl3 := hl.kept hk3 hcb
      have hk3' := hk.trans hk3
      clear hs hl hk hc hk3
      go_wp2_with fail
      refine (pick_any cb ao n c (a + 42 + 14 * (6 - t) + 2) 2 _ (by omega) (by omega) (by omega) hc3).mono ?_
      rintro e w4 ⟨⟨r2, rfl, hr2⟩, hc4, hk4⟩
      have hs4 := hs3.kept hk4 hcb
      have hl4 := hl3.kept hk4 hcb
      have hk4' := hk3'.trans hk4
      clear hs3 hl3 hk4 hk3' hc3
      go_wp2_with fail
      refine (pick_any cb ao n c (a + 42 + 14 * (6 - t) + 2 + 2) 3 _ (by omega) (by omega) (by omega) hc4).mono ?_
      rintro e w5 ⟨⟨r3, rfl, hr3⟩, hc5, hk5⟩
      have hs5 := hs4.kept hk5 hcb
      have hl5 := hl4.kept hk5 hcb
      have hk5' := hk4'.trans hk5
      clear hs4 hl4 hk5 hk4' hc4
      obtain ⟨S, k, hk60, hown⟩ := hs5
      obtain ⟨p, hp6, hop⟩ := hl5
      obtain ⟨sa, sc, es, hn1, _, hn3⟩ := own_form hown
      obtain ⟨la, lc, rfl, _⟩ := own_form hop
      subst es
      have HN3 : Hid (sa = none → k = 0 ∧ sc = 0) := hn3
      have HOP : Hid (w5.ownsRow w.heap.size 85 2 (.slice la p.n lc) p.n (pairList p p.n)) := hop
      have HON : Hid (w5.ownsRow w.heap.size 174 4 (.slice sa k sc) k (roomList S k)) := hown
      clear hown hop hn3
      go_wp2_with fail
      refine (specPlaceB_any la sa p.n lc k sc p S _ _ _ _ rfl (by omega) (by omega) hn1 (pairs_of_own rfl HOP.out) (rooms_of_own HON.out) HN3.out).mono ?_
      rintro e w6 ⟨⟨v6, rfl, ho6⟩, hb6⟩
      have HOP6 : Hid (w6.ownsRow w.heap.size 85 2 (.slice la p.n lc) p.n (pairList p p.n)) := own_below hb6 HOP.out
      have HON6 : Hid (w6.ownsRow w.heap.size 174 4 (.slice sa k sc) k (roomList S k)) := own_below hb6 HON.out
      have hv6 : RoomsOwn w6 w.heap.size 60 v6 := ⟨_, _, berthLen_le _ _ _ _ _ _, own_base ho6 hk5'.size⟩
      have hc6 := hc5.below hb6
      have hk6 := hk5'.trans (Kept.of_below hb6)
      clear hk5' hc5 hb6 HOP HON ho6
      generalize berthOk p k S (1 + (r1 : Int)) (1 + (r2 : Int)) (1 + (r3 : Int)) = ok6
      generalize berthAt p k S (1 + (r1 : Int)) (1 + (r2 : Int)) (1 + (r3 : Int)) = at6
      go_wp2_with fail
      refine (one_any cb ao n c (a + 42 + 14 * (6 - t) + 2 + 2 + 2) 3 _ (by omega) (by omega) (by omega) hc6).mono ?_
      rintro e w7 ⟨⟨q, rfl⟩, hc7, hk7⟩
      have HOP7 : Hid (w7.ownsRow w.heap.size 85 2 (.slice la p.n lc) p.n (pairList p p.n)) := own_kept HOP6.out hk7 hcb
      have HON7 : Hid (w7.ownsRow w.heap.size 174 4 (.slice sa k sc) k (roomList S k)) := own_kept HON6.out hk7 hcb
      have hv7 := hv6.kept hk7 hcb
      have hk7' := hk6.trans hk7
      clear hk6 hc6 hk7 HOP6 HON6 hv6
      cases q with
      | false =>
        cases ok6 with
        | true =>
          go_wp2
          go_roundw
          case rel => exact ⟨t - 1, by go_num, by omega, hv7, ⟨p, hp6, HOP7.out⟩, hc7.more (by omega), hk7'⟩
          case measure => simp [intOf]; omega
        | false =>
          go_wp2
          go_roundw
          case rel => exact ⟨t - 1, by go_num, by omega, ⟨S, k, hk60, HON7.out⟩, ⟨p, hp6, HOP7.out⟩, hc7.more (by omega), hk7'⟩
          case measure => simp [intOf]; omega
      | true =>
        go_wp2_with fail
        refine (pick_any cb ao n c (a + 42 + 14 * (6 - t) + 2 + 2 + 2 + 2) 12 _ (by omega) (by omega) (by omega) hc7).mono ?_
        rintro e w8 ⟨⟨s1, rfl, hs1⟩, hc8, hk8⟩
        have HOP8 : Hid (w8.ownsRow w.heap.size 85 2 (.slice la p.n lc) p.n (pairList p p.n)) := own_kept HOP7.out hk8 hcb
        have HON8 : Hid (w8.ownsRow w.heap.size 174 4 (.slice sa k sc) k (roomList S k)) := own_kept HON7.out hk8 hcb
        have hk8' := hk7'.trans hk8
        clear hk7' hc7 hk8 HOP7 HON7 hv7
        go_wp2_with fail
        refine (pick_any cb ao n c (a + 42 + 14 * (6 - t) + 2 + 2 + 2 + 2 + 2) 2 _ (by omega) (by omega) (by omega) hc8).mono ?_
        rintro e w9 ⟨⟨s2, rfl, hs2⟩, hc9, hk9⟩
        have HOP9 : Hid (w9.ownsRow w.heap.size 85 2 (.slice la p.n lc) p.n (pairList p p.n)) := own_kept HOP8.out hk9 hcb
        have HON9 : Hid (w9.ownsRow w.heap.size 174 4 (.slice sa k sc) k (roomList S k)) := own_kept HON8.out hk9 hcb
        have hk9' := hk8'.trans hk9
        clear hk8' hc8 hk9 HOP8 HON8
        go_wp2_with fail
        refine (pick_any cb ao n c (a + 42 + 14 * (6 - t) + 2 + 2 + 2 + 2 + 2 + 2) 5 _ (by omega) (by omega) (by omega) hc9).mono ?_
        rintro e w10 ⟨⟨s3, rfl, hs3⟩, hc10, hk10⟩
        have HOP10 : Hid (w10.ownsRow w.heap.size 85 2 (.slice la p.n lc) p.n (pairList p p.n)) := own_kept HOP9.out hk10 hcb
        have HON10 : Hid (w10.ownsRow w.heap.size 174 4 (.slice sa k sc) k (roomList S k)) := own_kept HON9.out hk10 hcb
        have hk10' := hk9'.trans hk10
        clear hk9' hc9 hk10 HOP9 HON9
        go_wp2_with fail
        refine (specWhole_any la sa p.n lc k sc p S _ _ _ _ rfl (by omega) (by omega) hn1 (pairs_of_own rfl HOP10.out) (rooms_of_own HON10.out) HN3.out).mono ?_
        rintro e w11 ⟨⟨v11, rfl, ho11⟩, hb11⟩
        have HOP11 : Hid (w11.ownsRow w.heap.size 85 2 (.slice la p.n lc) p.n (pairList p p.n)) := own_below hb11 HOP10.out
        have HON11 : Hid (w11.ownsRow w.heap.size 174 4 (.slice sa k sc) k (roomList S k)) := own_below hb11 HON10.out
        have hv11 : RoomsOwn w11 w.heap.size 60 v11 := ⟨_, _, wholeLen_le _ _ _ _ _ _, own_base ho11 hk10'.size⟩
        have hc11 := hc10.below hb11
        have hk11 := hk10'.trans (Kept.of_below hb11)
        clear hk10' hc10 hb11 HOP10 HON10 ho11
        generalize wholeOk p k S (1 + (s1 : Int)) (1 + (s2 : Int)) (1 + (s3 : Int)) = ok11
        generalize wholeAt p k S (1 + (s1 : Int)) (1 + (s2 : Int)) (1 + (s3 : Int)) = at11
        cases ok11 with
        | true =>
          go_wp2
          go_roundw
          case rel => exact ⟨t - 1, by go_num, by omega, hv11, ⟨p, hp6, HOP11.out⟩, hc11.more (by omega), hk11⟩
          case measure => simp [intOf]; omega
        | false =>
          go_wp2
          go_roundw
          case rel => exact ⟨t - 1, by go_num, by omega, ⟨S, k, hk60, HON11.out⟩, ⟨p, hp6, HOP11.out⟩, hc11.more (by omega), hk11⟩
          case measure => simp [intOf]; omega

set_option maxHeartbeats 1600000 in
set_option maxRecDepth 100000 in
theorem drawWhole_any (ao : Option Addr) (n c : Nat) (w : World) (h : BytesAt w ao n) :
    Calls Try.prog 35 #[.slice ao n c] w fun e w' => (∃ vl vs x cl q, e = .returned (.tuple #[vl, vs, .int .i64 x, .int .i64 cl, .int .i64 q]) ∧ CabsOwn w' w.heap.size vl ∧ RoomsOwn w' w.heap.size 61 vs) ∧ Below w.heap.size w w' := by
  have hc0 := cur_new (c := c) h
  have hb0 : Below w.heap.size w (w.alloc (.cells #[.slice ao n c, .int .i64 0, .int .u64 0] 90)) := push (Below.refl _ _) _
  have hsz : (w.alloc (.cells #[.slice ao n c, .int .i64 0, .int .u64 0] 90)).heap.size = w.heap.size + 1 := by simp
  go_enter Try.func35, Try.ntmps35
  go_wp2_with fail
  generalize w.alloc (.cells #[.slice ao n c, .int .i64 0, .int .u64 0] 90) = w0 at hc0 hb0 hsz ⊢
  refine (roomsOf_any w.heap.size ao n c 0 _ (by omega) hc0).mono ?_
  rintro e w1 ⟨⟨vl, vs, rfl, hl1, hs1⟩, hc1, hk1⟩
  clear hc0
  go_wp2_with fail
  refine (pick_any w.heap.size ao n c (0 + 200) 6 _ (by omega) (by omega) (by omega) hc1).mono ?_
  rintro e w2 ⟨⟨r, rfl, hr⟩, hc2, hk2⟩
  have hl2 := hl1.kept hk2 (by omega)
  have hs2 := hs1.kept hk2 (by omega)
  have hk2' := hk1.trans hk2
  clear hl1 hs1 hk1 hk2 hc1
  go_wp2_with fail
  refine (one_any w.heap.size ao n c (0 + 200 + 2) 20 _ (by omega) (by omega) (by omega) hc2).mono ?_
  rintro e w3 ⟨⟨q, rfl⟩, hc3, hk3⟩
  have hl3 := hl2.kept hk3 (by omega)
  have hs3 := hs2.kept hk3 (by omega)
  have hk3' := hk2'.trans hk3
  clear hl2 hs2 hk2' hk3 hc2
  cases q with
  | false =>
    go_wp2_with fail
    refine (by_any w.heap.size ao n c (0 + 200 + 2 + 2) _ (by omega) hc3).mono ?_
    rintro e w4 ⟨⟨x, rfl⟩, hc4, hk4⟩
    have hl4 := hl3.kept hk4 (by omega)
    have hs4 := hs3.kept hk4 (by omega)
    have hk4' := hk3'.trans hk4
    clear hl3 hs3 hk3' hk4 hc3
    go_wp2_with fail
    refine (classOf_any w.heap.size ao n c (0 + 200 + 2 + 2 + 10) _ (by omega) hc4).mono ?_
    rintro e w5 ⟨⟨cl, rfl⟩, hc5, hk5⟩
    have hl5 := hl4.kept hk5 (by omega)
    have hs5 := hs4.kept hk5 (by omega)
    have hk5' := hk4'.trans hk5
    clear hl4 hs4 hk4' hk5 hc4
    go_wp2
    exact bodyPost_ret (v := .tuple #[vl, vs, .int .i64 x, .int .i64 cl, .int .i64 _]) (by simp [results, Try.results35, go_sem]; rfl) rfl ⟨⟨vl, vs, x, cl, _, rfl, hl5.base (by omega), hs5.base (by omega)⟩, Kept.below hb0 (by omega) hk5' (fun b hb => by omega)⟩
  | true =>
    go_wp2_with fail
    refine (amongL w.heap.size ao n c (0 + 200 + 2 + 2) 3 [0, 20, 21] _ rfl (by omega) (by omega) (by omega) (hc3.below (push (Below.refl _ _) _)) w3.heap.size (heap_alloc_new w3 _) (by have := hc3.lt; omega)).mono ?_
    rintro e w4 ⟨⟨y, rfl⟩, hc4, hk4⟩
    have hl4 := (hl3.below (push (Below.refl _ _) _)).kept hk4 (by omega)
    have hs4 := (hs3.below (push (Below.refl _ _) _)).kept hk4 (by omega)
    have hk4' := hk3'.trans ((Kept.of_below (push (Below.refl _ _) _)).trans hk4)
    clear hl3 hs3 hk3' hk4 hc3
    go_wp2_with fail
    refine (by_any w.heap.size ao n c (0 + 200 + 2 + 2 + 2) _ (by omega) hc4).mono ?_
    rintro e w5 ⟨⟨x, rfl⟩, hc5, hk5⟩
    have hl5 := hl4.kept hk5 (by omega)
    have hs5 := hs4.kept hk5 (by omega)
    have hk5' := hk4'.trans hk5
    clear hl4 hs4 hk4' hk5 hc4
    go_wp2_with fail
    refine (classOf_any w.heap.size ao n c (0 + 200 + 2 + 2 + 2 + 10) _ (by omega) hc5).mono ?_
    rintro e w6 ⟨⟨cl, rfl⟩, hc6, hk6⟩
    have hl6 := hl5.kept hk6 (by omega)
    have hs6 := hs5.kept hk6 (by omega)
    have hk6' := hk5'.trans hk6
    clear hl5 hs5 hk5' hk6 hc5
    go_wp2
    exact bodyPost_ret (v := .tuple #[vl, vs, .int .i64 x, .int .i64 cl, .int .i64 y]) (by simp [results, Try.results35, go_sem]) rfl ⟨⟨vl, vs, x, cl, y, rfl, hl6.base (by omega), hs6.base (by omega)⟩, Kept.below hb0 (by omega) hk6' (fun b hb => by omega)⟩

set_option maxHeartbeats 1600000 in
set_option maxRecDepth 100000 in
theorem drawBerths_any (ao : Option Addr) (n c : Nat) (w : World) (h : BytesAt w ao n) :
    Calls Try.prog 40 #[.slice ao n c] w fun e w' => (∃ vl vs x cl, ∃ q : Nat, q ≤ 5 ∧ e = .returned (.tuple #[vl, vs, .int .i64 x, .int .i64 cl, .int .i64 (q : Int)]) ∧ CabsOwn w' w.heap.size vl ∧ RoomsOwn w' w.heap.size 61 vs) ∧ Below w.heap.size w w' := by
  have hc0 := cur_new (c := c) h
  have hb0 : Below w.heap.size w (w.alloc (.cells #[.slice ao n c, .int .i64 0, .int .u64 0] 90)) := push (Below.refl _ _) _
  have hsz : (w.alloc (.cells #[.slice ao n c, .int .i64 0, .int .u64 0] 90)).heap.size = w.heap.size + 1 := by simp
  go_enter Try.func40, Try.ntmps40
  go_wp2_with fail
  generalize w.alloc (.cells #[.slice ao n c, .int .i64 0, .int .u64 0] 90) = w0 at hc0 hb0 hsz ⊢
  refine (roomsOf_any w.heap.size ao n c 0 _ (by omega) hc0).mono ?_
  rintro e w1 ⟨⟨vl, vs, rfl, hl1, hs1⟩, hc1, hk1⟩
  clear hc0
  go_wp2_with fail
  refine (by_any w.heap.size ao n c (0 + 200) _ (by omega) hc1).mono ?_
  rintro e w2 ⟨⟨x, rfl⟩, hc2, hk2⟩
  have hl2 := hl1.kept hk2 (by omega)
  have hs2 := hs1.kept hk2 (by omega)
  have hk2' := hk1.trans hk2
  clear hl1 hs1 hk1 hk2 hc1
  go_wp2_with fail
  refine (classOf_any w.heap.size ao n c (0 + 200 + 10) _ (by omega) hc2).mono ?_
  rintro e w3 ⟨⟨cl, rfl⟩, hc3, hk3⟩
  have hl3 := hl2.kept hk3 (by omega)
  have hs3 := hs2.kept hk3 (by omega)
  have hk3' := hk2'.trans hk3
  clear hl2 hs2 hk2' hk3 hc2
  go_wp2_with fail
  refine (pick_any w.heap.size ao n c (0 + 200 + 10 + 10) 6 _ (by omega) (by omega) (by omega) hc3).mono ?_
  rintro e w4 ⟨⟨q, rfl, hq⟩, hc4, hk4⟩
  have hl4 := hl3.kept hk4 (by omega)
  have hs4 := hs3.kept hk4 (by omega)
  have hk4' := hk3'.trans hk4
  clear hl3 hs3 hk3' hk4 hc3
  go_wp2
  exact bodyPost_ret (v := .tuple #[vl, vs, .int .i64 x, .int .i64 cl, .int .i64 (q : Int)]) (by simp [results, Try.results40, go_sem]) rfl ⟨⟨vl, vs, x, cl, q, by omega, rfl, hl4.base (by omega), hs4.base (by omega)⟩, Kept.below hb0 (by omega) hk4' (fun b hb => by omega)⟩

end Go.Proofs.Ytaalhmaacaahhaa
