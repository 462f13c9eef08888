/-
  OWN TEXT: SpecNb, SpecPa, SpecSp.
-/
import Derived.Deep.LoopGhost
import Derived.Deep.DeepCutAuto
import Derived.Test.YtfbooamjddnagaaDoorXadOp00
import Derived.Test.YtfbooamjddnagaaDoorB10
import Derived.Test.YtfbooamjddnagaaDoorXadOp04
import Derived.Test.YtfbooamjddnagaaDoorXadOp01
namespace Go.Proofs.YtfbooamjddnagaaDoor
open Go.RowKit

set_option maxHeartbeats 1600000 in
set_option maxRecDepth 100000 in
theorem l11Number_any (s : ByteArray) (w : World) :
    Calls Tryd.prog 40 #[.string s] w fun e w' => e = .returned (.int .i64 (numOf s)) ∧ w' = w := by
  by_cases h0 : In (s.size : Int) 1 5
  case neg =>
    have HR : Hid (-1 = numOf s) := (numOf_long (fun h => h0 ⟨by omega, by omega⟩)).symm
    have d0 : decide (In (s.size : Int) 1 5) = false := decide_eq_false h0
    clear h0
    go_enter Tryd.func40, Tryd.ntmps40
    go_wp2_with (first | (go_at_call 27; refine (l1In_is _ _ _ _).mono ?_; rintro e w' ⟨rfl, hw'⟩; have hw' := hw'.symm; subst hw'))
    go_ret
    exact ⟨congrArg (fun z => Ending.returned (Value.int .i64 z)) HR.out, rfl⟩
  have d0 : decide (In (s.size : Int) 1 5) = true := decide_eq_true h0
  have h1 : 0 < s.size := by have := h0.1; omega
  have h5 : s.size ≤ 5 := by have := h0.2; omega
  clear h0
  have hl : s.data.toList.length = s.size := Array.length_toList
  have hz := get_at h1
  have hh : s.data.toList.head? = some (s[0]'h1) := by rw [List.head?_eq_getElem?]; exact hz
  clear hz
  have key : ∀ (c : UInt8), c = s[0]'h1 → (c ≠ 48 ∨ s.size = 1) → Hid (s.size = 1 ∨ s.data.toList.head? ≠ some 48) := fun c hc h => by
    rcases h with h | h
    · exact .inr (by rw [hh, ← hc]; simpa using h)
    · exact .inl h
  by_cases hc : s[0]'h1 = 48
  · by_cases h2 : 1 < s.size
    · have HR : Hid (-1 = numOf s) := (numOf_nought h2 (by rw [hh, hc])).symm
      have d1 : decide (1 < s.size) = true := decide_eq_true h2
      have d2 : decide ((1 : Int) < (s.size : Int)) = true := decide_eq_true (by omega)
      have e0 : (s[0]'h1).toNat = 48 := by rw [hc]; rfl
      have e1 : ((s[0]'h1).toNat == 48) = true := by rw [e0]; rfl
      have e2 : (((s[0]'h1).toNat : Int) == 48) = true := by rw [e0]; rfl
      clear key hh hc
      go_enter Tryd.func40, Tryd.ntmps40
      go_wp2_with (first | (go_at_call 27; refine (l1In_is _ _ _ _).mono ?_; rintro e w' ⟨rfl, hw'⟩; have hw' := hw'.symm; subst hw'))
      go_ret
      exact ⟨congrArg (fun z => Ending.returned (Value.int .i64 z)) HR.out, rfl⟩
    · have HH := key _ rfl (.inr (by omega))
      have d1 : decide (1 < s.size) = false := decide_eq_false h2
      have d2 : decide ((1 : Int) < (s.size : Int)) = false := decide_eq_false (by omega)
      have e0 : (s[0]'h1).toNat = 48 := by rw [hc]; rfl
      have e1 : ((s[0]'h1).toNat == 48) = true := by rw [e0]; rfl
      have e2 : (((s[0]'h1).toNat : Int) == 48) = true := by rw [e0]; rfl
      clear key hh hc
      go_enter Tryd.func40, Tryd.ntmps40
      go_wp2_with (first | (go_at_call 27; refine (l1In_is _ _ _ _).mono ?_; rintro e w' ⟨rfl, hw'⟩; have hw' := hw'.symm; subst hw'))
      clear e0 e1 e2
      go_loop [3, 4] (fun v i => ∃ k : Nat, k ≤ s.size ∧ v = .int .i64 (valL (s.data.toList.take k) : Int) ∧ i = .int .i64 k ∧ Hid (∀ c, c ∈ s.data.toList.take k → Digit c)) (fun _ i => s.size - (intOf i).toNat)
      case atStart => exact ⟨0, Nat.zero_le _, rfl, rfl, fun c hc => by simp at hc⟩
      case round =>
        obtain ⟨k, hk, rfl, rfl, HD⟩ := hrel
        by_cases hp : k < s.size
        · have hmem : s[k]'hp ∈ s.data.toList := List.mem_of_getElem? (get_at hp)
          by_cases hd : Digit (s[k]'hp)
          · have HD1 : Hid (∀ c, c ∈ s.data.toList.take (k + 1) → Digit c) := fun c hc => by
              rw [List.take_add_one, get_at hp] at hc
              rcases List.mem_append.1 hc with hc | hc
              · exact HD.out c hc
              · simp at hc; rw [hc]; exact hd
            have HV : Hid (valL (s.data.toList.take (k + 1)) = 10 * valL (s.data.toList.take k) + ((s[k]'hp).toNat - 48)) := by
              rw [List.take_add_one, get_at hp]
              exact valL_snoc _ _
            have hvs : valL (s.data.toList.take k) < 100000 := by
              have h1 := val_lt _ HD.out
              have h2 : (s.data.toList.take k).length ≤ 5 := by rw [List.length_take]; omega
              have : (10 : Nat) ^ (s.data.toList.take k).length ≤ 10 ^ 5 := Nat.pow_le_pow_right (by decide) h2
              omega
            unfold Digit at hd
            obtain ⟨c, hc⟩ : ∃ c : Nat, (s[k]'hp).toNat = c := ⟨_, rfl⟩
            have hcc : ((s[k]'hp).toNat : Int) = (c : Int) := by rw [hc]
            have HC : Hid ((s[k]'hp).toNat = c) := hc
            rw [hc] at hd
            generalize valL (s.data.toList.take k) = V at hvs HV ⊢
            have f1 : decide ((c : Int) < 48) = false := decide_eq_false (by omega)
            have f2 : decide ((57 : Int) < (c : Int)) = false := decide_eq_false (by omega)
            have f1' : decide (c < 48) = false := decide_eq_false (by omega)
            have f2' : decide (57 < c) = false := decide_eq_false (by omega)
            have w1 : IntKind.i64.wrap (10 * (V : Int)) = 10 * (V : Int) := by rw [IntKind.wrap_i64]; omega
            have w2 : IntKind.u8.wrap ((c : Int) - 48) = (c : Int) - 48 := by unfold IntKind.wrap; simp [IntKind.bits, IntKind.signed]; omega
            have w3 : IntKind.i64.wrap ((c : Int) - 48) = (c : Int) - 48 := by rw [IntKind.wrap_i64]; omega
            have w4 : IntKind.i64.wrap (10 * (V : Int) + ((c : Int) - 48)) = 10 * (V : Int) + ((c : Int) - 48) := by rw [IntKind.wrap_i64]; omega
            clear hmem HD
            go_wp2
            go_round
            case rel => exact ⟨k + 1, by omega, by rw [HV.out, HC.out]; congr 1; omega, by go_num, HD1⟩
            case measure => simp [intOf]; omega
          · have HR : Hid (-1 = numOf s) := (numOf_sign hmem hd).symm
            unfold Digit at hd
            obtain ⟨c, hc⟩ : ∃ c : Nat, (s[k]'hp).toNat = c := ⟨_, rfl⟩
            have hcc : ((s[k]'hp).toNat : Int) = (c : Int) := by rw [hc]
            rw [hc] at hd
            generalize valL (s.data.toList.take k) = V
            clear hmem HD
            by_cases h48 : c < 48
            · have f1 : decide ((c : Int) < 48) = true := decide_eq_true (by omega)
              have f1' : decide (c < 48) = true := decide_eq_true h48
              go_wp2
              go_ret
              exact ⟨congrArg (fun z => Ending.returned (Value.int .i64 z)) HR.out, rfl⟩
            · have f1 : decide ((c : Int) < 48) = false := decide_eq_false (by omega)
              have f1' : decide (c < 48) = false := decide_eq_false h48
              have f2 : decide ((57 : Int) < (c : Int)) = true := decide_eq_true (by omega)
              have f2' : decide (57 < c) = true := decide_eq_true (by omega)
              go_wp2
              go_ret
              exact ⟨congrArg (fun z => Ending.returned (Value.int .i64 z)) HR.out, rfl⟩
        · obtain rfl : k = s.size := by omega
          have hall : s.data.toList.take s.size = s.data.toList := List.take_of_length_le (by omega)
          rw [hall] at HD ⊢
          have HR : Hid ((valL s.data.toList : Int) = numOf s) := (numOf_plain h1 h5 HD.out HH.out).symm
          generalize valL s.data.toList = V at HR ⊢
          go_wp2
          go_ret
          exact ⟨congrArg (fun z => Ending.returned (Value.int .i64 z)) HR.out, rfl⟩
  · have HH := key _ rfl (.inl hc)
    have e0 : (s[0]'h1).toNat ≠ 48 := fun e => hc (UInt8.toNat_inj.1 e)
    have e1 : ((s[0]'h1).toNat == 48) = false := by rw [beq_eq_false_iff_ne]; exact e0
    have e2 : (((s[0]'h1).toNat : Int) == 48) = false := by rw [beq_eq_false_iff_ne]; omega
    clear key hh hc
    go_enter Tryd.func40, Tryd.ntmps40
    go_wp2_with (first | (go_at_call 27; refine (l1In_is _ _ _ _).mono ?_; rintro e w' ⟨rfl, hw'⟩; have hw' := hw'.symm; subst hw'))
    clear e0 e1 e2
    go_loop [3, 4] (fun v i => ∃ k : Nat, k ≤ s.size ∧ v = .int .i64 (valL (s.data.toList.take k) : Int) ∧ i = .int .i64 k ∧ Hid (∀ c, c ∈ s.data.toList.take k → Digit c)) (fun _ i => s.size - (intOf i).toNat)
    case atStart => exact ⟨0, Nat.zero_le _, rfl, rfl, fun c hc => by simp at hc⟩
    case round =>
      obtain ⟨k, hk, rfl, rfl, HD⟩ := hrel
      by_cases hp : k < s.size
      · have hmem : s[k]'hp ∈ s.data.toList := List.mem_of_getElem? (get_at hp)
        by_cases hd : Digit (s[k]'hp)
        · have HD1 : Hid (∀ c, c ∈ s.data.toList.take (k + 1) → Digit c) := fun c hc => by
            rw [List.take_add_one, get_at hp] at hc
            rcases List.mem_append.1 hc with hc | hc
            · exact HD.out c hc
            · simp at hc; rw [hc]; exact hd
          have HV : Hid (valL (s.data.toList.take (k + 1)) = 10 * valL (s.data.toList.take k) + ((s[k]'hp).toNat - 48)) := by
            rw [List.take_add_one, get_at hp]
            exact valL_snoc _ _
          have hvs : valL (s.data.toList.take k) < 100000 := by
            have h1 := val_lt _ HD.out
            have h2 : (s.data.toList.take k).length ≤ 5 := by rw [List.length_take]; omega
            have : (10 : Nat) ^ (s.data.toList.take k).length ≤ 10 ^ 5 := Nat.pow_le_pow_right (by decide) h2
            omega
          unfold Digit at hd
          obtain ⟨c, hc⟩ : ∃ c : Nat, (s[k]'hp).toNat = c := ⟨_, rfl⟩
          have hcc : ((s[k]'hp).toNat : Int) = (c : Int) := by rw [hc]
          have HC : Hid ((s[k]'hp).toNat = c) := hc
          rw [hc] at hd
          generalize valL (s.data.toList.take k) = V at hvs HV ⊢
          have f1 : decide ((c : Int) < 48) = false := decide_eq_false (by omega)
          have f2 : decide ((57 : Int) < (c : Int)) = false := decide_eq_false (by omega)
          have f1' : decide (c < 48) = false := decide_eq_false (by omega)
          have f2' : decide (57 < c) = false := decide_eq_false (by omega)
          have w1 : IntKind.i64.wrap (10 * (V : Int)) = 10 * (V : Int) := by rw [IntKind.wrap_i64]; omega
          have w2 : IntKind.u8.wrap ((c : Int) - 48) = (c : Int) - 48 := by unfold IntKind.wrap; simp [IntKind.bits, IntKind.signed]; omega
          have w3 : IntKind.i64.wrap ((c : Int) - 48) = (c : Int) - 48 := by rw [IntKind.wrap_i64]; omega
          have w4 : IntKind.i64.wrap (10 * (V : Int) + ((c : Int) - 48)) = 10 * (V : Int) + ((c : Int) - 48) := by rw [IntKind.wrap_i64]; omega
          clear hmem HD
          go_wp2
          go_round
          case rel => exact ⟨k + 1, by omega, by rw [HV.out, HC.out]; congr 1; omega, by go_num, HD1⟩
          case measure => simp [intOf]; omega
        · have HR : Hid (-1 = numOf s) := (numOf_sign hmem hd).symm
          unfold Digit at hd
          obtain ⟨c, hc⟩ : ∃ c : Nat, (s[k]'hp).toNat = c := ⟨_, rfl⟩
          have hcc : ((s[k]'hp).toNat : Int) = (c : Int) := by rw [hc]
          rw [hc] at hd
          generalize valL (s.data.toList.take k) = V
          clear hmem HD
          by_cases h48 : c < 48
          · have f1 : decide ((c : Int) < 48) = true := decide_eq_true (by omega)
            have f1' : decide (c < 48) = true := decide_eq_true h48
            go_wp2
            go_ret
            exact ⟨congrArg (fun z => Ending.returned (Value.int .i64 z)) HR.out, rfl⟩
          · have f1 : decide ((c : Int) < 48) = false := decide_eq_false (by omega)
            have f1' : decide (c < 48) = false := decide_eq_false h48
            have f2 : decide ((57 : Int) < (c : Int)) = true := decide_eq_true (by omega)
            have f2' : decide (57 < c) = true := decide_eq_true (by omega)
            go_wp2
            go_ret
            exact ⟨congrArg (fun z => Ending.returned (Value.int .i64 z)) HR.out, rfl⟩
      · obtain rfl : k = s.size := by omega
        have hall : s.data.toList.take s.size = s.data.toList := List.take_of_length_le (by omega)
        rw [hall] at HD ⊢
        have HR : Hid ((valL s.data.toList : Int) = numOf s) := (numOf_plain h1 h5 HD.out HH.out).symm
        generalize valL s.data.toList = V at HR ⊢
        go_wp2
        go_ret
        exact ⟨congrArg (fun z => Ending.returned (Value.int .i64 z)) HR.out, rfl⟩

end Go.Proofs.YtfbooamjddnagaaDoor

namespace Go.Proofs.YtfbooamjddnagaaDoor
open Go.RowKit

theorem PBx.pe {w wx : World} {rb pb : Nat} {p : Party} (h : PBx w wx rb pb p) (v : Int) : PBx w (wx.setCell ⟨pb, 0, none⟩ (.int .i64 v)) rb pb { p with pe := v } :=
  ⟨blk_set_other h.r 0 _ h.ne, (by simpa using blk_set h.b 0 (.int .i64 v)), h.ne, h.lo, h.bel.setCell h.lo.2 _⟩

set_option maxHeartbeats 3200000 in
set_option maxRecDepth 100000 in
theorem l11ReadParty_any (s : ByteArray) (w : World) (hs : s.size ≤ 1000000000) :
    Calls Tryd.prog 43 #[.string s] w fun e w' => e = .returned (.agg #[.int .i64 (readQ s).pe, .int .i64 (readQ s).len, .int .i64 (readQ s).hei, .int .i64 (readQ s).cl, .bool (readQ s).all, .int .i64 (readQ s).be]) ∧ Below w.heap.size w w' := by
  have z1 := cut_size 64 s
  have z2 := cut_size 43 (cutA 64 s)
  have c1 := fun W => l11Cut_any s 64 W (by omega)
  have c2 := fun W => l11Cut_any (cutA 64 s) 43 W (by omega)
  have c3 := fun W => l11Cut_any (cutB 43 (cutA 64 s)) 47 W (by omega)
  have c4 := fun W => l11Cut_any (cutB 64 s) 120 W (by omega)
  have n0 := fun W => l11Number_any (cutA 43 (cutA 64 s)) W
  have n1 := fun W => l11Number_any (cutA 47 (cutB 43 (cutA 64 s))) W
  have n2 := fun W => l11Number_any (cutB 47 (cutB 43 (cutA 64 s))) W
  have n3 := fun W => l11Number_any (cutA 120 (cutB 64 s)) W
  have n4 := fun W => l11Number_any (cutB 120 (cutB 64 s)) W
  have hR : readQ s = _ := rfl
  unfold readQ at hR
  have hR0 : readQ s = readQ s := rfl
  obtain ⟨R, hRR⟩ : ∃ R, R = readQ s := ⟨_, rfl⟩
  rw [← hRR]
  unfold readQ at hRR
  clear hR hR0
  generalize numOf (cutA 47 (cutB 43 (cutA 64 s))) = m1 at n1 hRR
  generalize numOf (cutB 47 (cutB 43 (cutA 64 s))) = m2 at n2 hRR
  generalize numOf (cutA 43 (cutA 64 s)) = m0 at n0 hRR
  generalize numOf (cutA 120 (cutB 64 s)) = m3 at n3 hRR
  generalize numOf (cutB 120 (cutB 64 s)) = m4 at n4 hRR
  generalize cutF 47 (cutB 43 (cutA 64 s)) = f4 at c3 hRR
  generalize cutF 120 (cutB 64 s) = f3 at c4 hRR
  generalize cutF 43 (cutA 64 s) = f2 at c2 hRR
  generalize cutF 64 s = f1 at c1 hRR
  generalize cutA 120 (cutB 64 s) = a3 at c4 n3
  generalize cutB 120 (cutB 64 s) = b3 at c4 n4
  generalize cutA 47 (cutB 43 (cutA 64 s)) = a4 at c3 n1
  generalize cutB 47 (cutB 43 (cutA 64 s)) = b4 at c3 n2
  generalize cutA 43 (cutA 64 s) = a2 at c2 n0
  generalize cutB 43 (cutA 64 s) = b2 at c2 c3 z2
  generalize cutB 64 s = b1 at c1 c4 z1
  generalize cutA 64 s = a1 at c1 c2 z1 z2
  have C1 : Hid _ := c1
  have C2 : Hid _ := c2
  have C3 : Hid _ := c3
  have C4 : Hid _ := c4
  have N0 : Hid _ := n0
  have N1 : Hid _ := n1
  have N2 : Hid _ := n2
  have N3 : Hid _ := n3
  have N4 : Hid _ := n4
  have HR : Hid (R = ⟨m0, if f2 then (if f4 = false ∨ m1 = 0 then -1 else m1) else 0, if f2 then m2 else 0, if f1 then (if m3 = 0 then -1 else m3) else 0, if f1 then !f3 else false, if f1 && f3 then m4 else 0⟩) := hRR
  clear c1 c2 c3 c4 n0 n1 n2 n3 n4 hRR z1 z2
  have hr := heap_alloc_new w (.cells #[.int .i64 0, .int .i64 0, .int .i64 0, .int .i64 0, .bool false, .int .i64 0] 30)
  have hb0 : Below w.heap.size w (w.alloc (.cells #[.int .i64 0, .int .i64 0, .int .i64 0, .int .i64 0, .bool false, .int .i64 0] 30)) := push (Below.refl _ _) _
  have hlt := blk_lt hr
  go_enter Tryd.func43, Tryd.ntmps43
  go_upto_region 1 with fail
  generalize w.alloc (.cells #[.int .i64 0, .int .i64 0, .int .i64 0, .int .i64 0, .bool false, .int .i64 0] 30) = W at hr hb0 hlt ⊢
  have HB : Hid (PBx w (W.alloc (.cells #[.int .i64 0, .int .i64 0, .int .i64 0, .int .i64 0, .bool false, .int .i64 0] 30)) w.heap.size W.heap.size (⟨0, 0, 0, 0, false, 0⟩ : Party)) :=
    ⟨blk_alloc hr _, heap_alloc_new W _, by omega, ⟨Nat.le_refl _, by omega⟩, push hb0 _⟩
  clear hr hb0
  go_upto_region 2 with fail
  generalize W.alloc (.cells #[.int .i64 0, .int .i64 0, .int .i64 0, .int .i64 0, .bool false, .int .i64 0] 30) = W3 at HB ⊢
  generalize W.heap.size = pb at HB hlt ⊢
  go_wp2_with fail
  refine (C1.out _).mono ?_
  rintro e w1 ⟨rfl, hb⟩
  have HB1 : Hid _ := HB.out.below hb
  clear HB hb hlt
  go_upto_if 20 with fail
  go_cut [] (fun wx => Hid (PBx w wx w.heap.size pb ⟨0, 0, 0, if f1 then (if m3 = 0 then -1 else m3) else 0, if f1 then !f3 else false, if f1 && f3 then m4 else 0⟩))
  case first =>
    cases f1 with
    | false =>
      go_wp2
      go_meet
      exact HB1.out
    | true =>
      go_wp2_with fail
      refine (C4.out _).mono ?_
      rintro e w4 ⟨rfl, hb⟩
      have HB4 : Hid (PBx w w4 w.heap.size pb (⟨0, 0, 0, 0, false, 0⟩ : Party)) := HB1.out.below hb
      clear HB1 hb
      go_wp2_with fail
      refine (N3.out _).mono ?_
      rintro e w5 ⟨rfl, hw5⟩
      have hw5 := hw5.symm
      subst hw5
      have b5 := HB4.out.b
      have x3 := blk_cell b5 3 _ rfl
      have x4 := blk_cell b5 4 _ rfl
      have g3 := blk_free b5 3
      have g4 := blk_free b5 4
      have HB6 : Hid _ := (HB4.out.cl m3).all (!f3)
      clear b5 HB4
      go_upto_if 33 with fail
      generalize World.setCell (World.setCell w4 ⟨pb, 3, none⟩ (.int .i64 m3)) ⟨pb, 4, none⟩ _ = W6 at HB6 ⊢
      clear x3 x4 g3 g4
      cases f3 with
      | false =>
        have b9 := HB6.out.b
        have x3 := blk_cell b9 3 _ rfl
        have g3 := blk_free b9 3
        by_cases hz : m3 = 0
        · have HE : Hid (⟨0, 0, 0, if true then (if m3 = 0 then -1 else m3) else 0, if true then !false else false, if true && false then m4 else 0⟩ = (⟨0, 0, 0, -1, true, 0⟩ : Party)) := by
            show _ = _
            simp [hz]
          have ez : (m3 == 0) = true := by rw [hz]; rfl
          have HB9 : Hid _ := HB6.out.cl (-1)
          clear b9 hz
          go_wp2
          go_meet
          rw [HE.out]
          exact HB9.out
        · have HE : Hid (⟨0, 0, 0, if true then (if m3 = 0 then -1 else m3) else 0, if true then !false else false, if true && false then m4 else 0⟩ = (⟨0, 0, 0, m3, true, 0⟩ : Party)) := by
            show _ = _
            simp [hz]
          have ez : (m3 == 0) = false := by rw [beq_eq_false_iff_ne]; exact hz
          clear b9
          go_wp2
          go_meet
          rw [HE.out]
          exact HB6.out
      | true =>
        go_wp2_with fail
        refine (N4.out _).mono ?_
        rintro e w7 ⟨rfl, hw7⟩
        have hw7 := hw7.symm
        subst hw7
        have b7 := HB6.out.b
        have x5 := blk_cell b7 5 _ rfl
        have g5 := blk_free b7 5
        have HB8 : Hid _ := HB6.out.be m4
        clear b7 HB6
        go_upto_region 9 with fail
        generalize World.setCell W6 ⟨pb, 5, none⟩ (.int .i64 m4) = W8 at HB8 ⊢
        clear x5 g5
        have b9 := HB8.out.b
        have x3 := blk_cell b9 3 _ rfl
        have g3 := blk_free b9 3
        by_cases hz : m3 = 0
        · have HE : Hid (⟨0, 0, 0, if true then (if m3 = 0 then -1 else m3) else 0, if true then !true else false, if true && true then m4 else 0⟩ = (⟨0, 0, 0, -1, false, m4⟩ : Party)) := by
            show _ = _
            simp [hz]
          have ez : (m3 == 0) = true := by rw [hz]; rfl
          have HB9 : Hid _ := HB8.out.cl (-1)
          clear b9 hz
          go_wp2
          go_meet
          rw [HE.out]
          exact HB9.out
        · have HE : Hid (⟨0, 0, 0, if true then (if m3 = 0 then -1 else m3) else 0, if true then !true else false, if true && true then m4 else 0⟩ = (⟨0, 0, 0, m3, false, m4⟩ : Party)) := by
            show _ = _
            simp [hz]
          have ez : (m3 == 0) = false := by rw [beq_eq_false_iff_ne]; exact hz
          clear b9
          go_wp2
          go_meet
          rw [HE.out]
          exact HB8.out
  case rest =>
  have HC := hcut
  clear hcut HB1
  obtain ⟨q, hq⟩ : ∃ q : Party, q = ⟨0, 0, 0, if f1 then (if m3 = 0 then -1 else m3) else 0, if f1 then !f3 else false, if f1 && f3 then m4 else 0⟩ := ⟨_, rfl⟩
  rw [← hq] at HC
  have HQR : Hid (R = { q with pe := m0, len := if f2 then (if f4 = false ∨ m1 = 0 then -1 else m1) else 0, hei := if f2 then m2 else 0 }) := by
    show R = _
    rw [HR.out, hq]
  have HQ0 : Hid (q.pe = 0 ∧ q.len = 0 ∧ q.hei = 0) := by rw [hq]; exact ⟨rfl, rfl, rfl⟩
  clear HR hq
  go_wp2_with fail
  refine (C2.out _).mono ?_
  rintro e w1 ⟨rfl, hb⟩
  have HB1 : Hid (PBx w w1 w.heap.size pb q) := HC.out.below hb
  clear HC hb
  go_upto_if 47 with fail
  go_cut [] (fun wx => Hid (PBx w wx w.heap.size pb { q with len := if f2 then (if f4 = false ∨ m1 = 0 then -1 else m1) else 0, hei := if f2 then m2 else 0 }))
  case first =>
    cases f2 with
    | false =>
      have HE : Hid ({ q with len := if false then (if f4 = false ∨ m1 = 0 then -1 else m1) else 0, hei := if false then m2 else 0 } = q) := by
        show _ = _
        obtain ⟨a, b, c, d, e, f⟩ := q
        have h := HQ0.out
        dsimp only at h
        obtain ⟨_, rfl, rfl⟩ := h
        rfl
      go_wp2
      go_meet
      rw [HE.out]
      exact HB1.out
    | true =>
      go_wp2_with fail
      refine (C3.out _).mono ?_
      rintro e w4 ⟨rfl, hb⟩
      have HB4 : Hid (PBx w w4 w.heap.size pb q) := HB1.out.below hb
      clear HB1 hb
      go_wp2_with fail
      refine (N1.out _).mono ?_
      rintro e w5 ⟨rfl, hw5⟩
      have hw5 := hw5.symm
      subst hw5
      have b5 := HB4.out.b
      have x1 := blk_cell b5 1 _ rfl
      have x2 := blk_cell b5 2 _ rfl
      have g1 := blk_free b5 1
      have g2 := blk_free b5 2
      have HB6 : Hid _ := (HB4.out.len m1).hei m2
      clear b5 HB4
      go_wp2_with fail
      refine (N2.out _).mono ?_
      rintro e w6 ⟨rfl, hw6⟩
      have hw6 := hw6.symm
      subst hw6
      go_upto_region 16 with fail
      generalize World.setCell (World.setCell w4 ⟨pb, 1, none⟩ (.int .i64 m1)) ⟨pb, 2, none⟩ (.int .i64 m2) = W6 at HB6 ⊢
      clear x1 x2 g1 g2
      have b9 := HB6.out.b
      have x1 := blk_cell b9 1 _ rfl
      have g1 := blk_free b9 1
      have HB9 : Hid _ := HB6.out.len (-1)
      cases f4 with
      | false =>
        have HE : Hid ({ q with len := if true then (if false = false ∨ m1 = 0 then -1 else m1) else 0, hei := if true then m2 else 0 } = { q with len := -1, hei := m2 }) := by
          show _ = _
          simp
        clear b9 HB6
        go_wp2
        go_meet
        rw [HE.out]
        exact HB9.out
      | true =>
        by_cases hz : m1 = 0
        · have HE : Hid ({ q with len := if true then (if true = false ∨ m1 = 0 then -1 else m1) else 0, hei := if true then m2 else 0 } = { q with len := -1, hei := m2 }) := by
            show _ = _
            simp [hz]
          have ez : (m1 == 0) = true := by rw [hz]; rfl
          clear b9 hz HB6
          go_wp2
          go_meet
          rw [HE.out]
          exact HB9.out
        · have HE : Hid ({ q with len := if true then (if true = false ∨ m1 = 0 then -1 else m1) else 0, hei := if true then m2 else 0 } = { q with len := m1, hei := m2 }) := by
            show _ = _
            simp [hz]
          have ez : (m1 == 0) = false := by rw [beq_eq_false_iff_ne]; exact hz
          clear b9 HB9
          go_wp2
          go_meet
          rw [HE.out]
          exact HB6.out
  case rest =>
  have HD := hcut
  clear hcut HB1
  have HR2 : Hid (PBx w (wc.setCell ⟨pb, 0, none⟩ (.int .i64 m0)) w.heap.size pb R) := by
    have h := HD.out.pe m0
    rw [HQR.out]
    exact h
  have b5 := HD.out.b
  have x0 := blk_cell b5 0 _ rfl
  have g0 := blk_free b5 0
  clear b5 HD HQR HQ0
  go_wp2_with fail
  refine (N0.out _).mono ?_
  rintro e w5 ⟨rfl, hw5⟩
  have hw5 := hw5.symm
  subst hw5
  go_upto_region 19 with fail
  generalize World.setCell wc ⟨pb, 0, none⟩ (.int .i64 m0) = W9 at HR2 ⊢
  clear x0 g0
  have bp := HR2.out.b
  have br := HR2.out.r
  have p0 := blk_cell bp 0 _ rfl
  have r0 := blk_cell br 0 _ rfl
  have q0 := blk_free br 0
  have p1 := blk_cell bp 1 _ rfl
  have r1 := blk_cell br 1 _ rfl
  have q1 := blk_free br 1
  have p2 := blk_cell bp 2 _ rfl
  have r2 := blk_cell br 2 _ rfl
  have q2 := blk_free br 2
  have p3 := blk_cell bp 3 _ rfl
  have r3 := blk_cell br 3 _ rfl
  have q3 := blk_free br 3
  have p4 := blk_cell bp 4 _ rfl
  have r4 := blk_cell br 4 _ rfl
  have q4 := blk_free br 4
  have p5 := blk_cell bp 5 _ rfl
  have r5 := blk_cell br 5 _ rfl
  have q5 := blk_free br 5
  have rF := box_6 br (.int .i64 R.pe) (.int .i64 R.len) (.int .i64 R.hei) (.int .i64 R.cl) (.bool R.all) (.int .i64 R.be)
  have HF : Hid _ := partyDone HR2.out (.int .i64 R.pe) (.int .i64 R.len) (.int .i64 R.hei) (.int .i64 R.cl) (.bool R.all) (.int .i64 R.be)
  clear bp br
  go_wp2
  have z0 := blk_cell rF 0 _ rfl
  have z1 := blk_cell rF 1 _ rfl
  have z2 := blk_cell rF 2 _ rfl
  have z3 := blk_cell rF 3 _ rfl
  have z4 := blk_cell rF 4 _ rfl
  have z5 := blk_cell rF 5 _ rfl
  exact bodyPost_ret (v := .agg #[.int .i64 R.pe, .int .i64 R.len, .int .i64 R.hei, .int .i64 R.cl, .bool R.all, .int .i64 R.be]) (by simp [results, Tryd.results43, go_sem, z0, z1, z2, z3, z4, z5]) rfl ⟨rfl, HF.out⟩

end Go.Proofs.YtfbooamjddnagaaDoor

namespace Go.Proofs.YtfbooamjddnagaaDoor
open Go.RowKit

set_option maxHeartbeats 1600000 in
set_option maxRecDepth 100000 in
theorem l11Split_any (s : ByteArray) (p : UInt8) (w : World) (hs : s.size ≤ 1048576) :
    Calls Tryd.prog 37 #[.string s, .int .u8 p.toNat] w fun e w' => ∃ v l, e = .returned v ∧ OwnT w' w.heap.size v l ∧ Hid (Parts p s l ∧ l.length ≤ s.size + 1) ∧ Below w.heap.size w w' := by
  obtain ⟨j0, ji, jz0, jz1, jz2⟩ := info_parts Tryd.infoText
  go_enter Tryd.func37, Tryd.ntmps37
  go_wp2
  go_loopw [5, 6, 7] (fun v vs vi wr => ∃ (i : Nat) (l : List ByteArray), vi = .int .i64 i ∧ Hid (OwnT wr w.heap.size v l) ∧ Below w.heap.size w wr ∧ ((∃ st : Nat, vs = .int .i64 st ∧ i ≤ s.size ∧ Hid (CutAt p s i st l)) ∨ (∃ st : Int, vs = .int .i64 st ∧ i = s.size + 1 ∧ Hid (Parts p s l ∧ l.length ≤ s.size + 1))))
    (fun _ _ vi _ => s.size + 1 - (intOf vi).toNat)
  case atStart => exact ⟨0, [], rfl, World.ownsRow_nil _ _ _ _, Below.refl _ _, .inl ⟨0, rfl, Nat.zero_le _, CutAt.start p s⟩⟩
  case round =>
    obtain ⟨i, l, rfl, HO, hbel, hcase⟩ := hrel
    obtain ⟨la, lc, rfl, _⟩ := own_form HO.out
    rcases hcase with ⟨st, rfl, hi, HC⟩ | ⟨st, rfl, rfl, HP⟩
    · have hst := HC.out.1
      have hll := HC.out.2.2.1
      have g1 : decide ((i : Int) ≤ (s.size : Int)) = true := decide_eq_true (by omega)
      have g1' : decide (i ≤ s.size) = true := decide_eq_true hi
      by_cases hlt : i < s.size
      · by_cases he : s[i]'hlt = p
        · have HC1 : Hid (CutAt p s (i + 1) (i + 1) (l ++ [s.extract st i])) := HC.out.sep hlt he
          have ep : ((p.toNat : Int) == (p.toNat : Int)) = true := by simp
          have e1 : ((s[i]'hlt).toNat : Int) = (p.toNat : Int) := by rw [he]
          have e2 : (s[i]'hlt).toNat = p.toNat := by rw [he]
          have n1 : ((i : Int) == (s.size : Int)) = false := by rw [beq_eq_false_iff_ne]; omega
          have n2 : (i == s.size) = false := by rw [beq_eq_false_iff_ne]; omega
          have hw1 : IntKind.i64.wrap ((i : Int) + 1) = ((i + 1 : Nat) : Int) := by rw [IntKind.wrap_i64]; omega
          have i1 : (0 : Int) ≤ (st : Int) := by omega
          have i2 : (st : Int) ≤ (i : Int) := by omega
          have i3 : (i : Int) ≤ (s.size : Int) := by omega
          have HO2 : Hid (OwnT (wr.alloc (.cells #[.string (s.extract st i)] 9)) w.heap.size (.slice la l.length lc) l) := own_below (push (Below.refl _ _) _) HO.out
          have hb2 : Below w.heap.size w (wr.alloc (.cells #[.string (s.extract st i)] 9)) := push hbel _
          have hsz := hb2.size
          clear hbel HO he
          go_wp2_with (first | (at_builtin; refine wpList_append_any _ (by rfl) (.tmp 25) (.tmp 30) 64 (by rfl) w.heap.size 9 j0 (.string ⟨#[]⟩) 1 16 Tryd.underlying64 ji jz0 jz1 jz2 rfl (by decide) _ l.length (l.map Value.string) (by rfl) HO2.out (some ⟨wr.heap.size, 0, none⟩) 1 1 [.string (s.extract st i)] (by rfl) (fun h => by cases h) (by rfl) (fun ad h => by cases h; exact World.news_of_block (heap_alloc_new wr _)) (by intro u hu; simp only [List.mem_cons, List.not_mem_nil, or_false] at hu; subst hu; rfl) (by unfold maxLen; omega) (by omega) hsz ?_; intro v9 w9 ho9 hg9; have hb9 := hb2.grown hg9 hsz (fun j hj => (World.ownsRow.lt HO2.out j hj).1); have HO9 : Hid (OwnT w9 w.heap.size v9 (l ++ [s.extract st i])) := (by unfold OwnT; rw [List.length_append, List.map_append]; exact ho9); clear ho9 hg9))
          go_roundw
          case rel => exact ⟨i + 1, _, by go_num, HO9, hb9, .inl ⟨i + 1, by go_num, by omega, HC1⟩⟩
          case measure => simp [intOf]; omega
        · have HC1 : Hid (CutAt p s (i + 1) st l) := HC.out.skip (by omega) (by omega) (fun j h1 h2 hj => by
            obtain rfl : i = j := by omega
            exact he)
          have hne : (s[i]'hlt).toNat ≠ p.toNat := fun e => he (UInt8.toNat_inj.1 e)
          have hne' : (((s[i]'hlt).toNat : Int) == (p.toNat : Int)) = false := by rw [beq_eq_false_iff_ne]; omega
          have n1 : ((i : Int) == (s.size : Int)) = false := by rw [beq_eq_false_iff_ne]; omega
          have n2 : (i == s.size) = false := by rw [beq_eq_false_iff_ne]; omega
          clear he
          go_wp2
          go_roundw
          case rel => exact ⟨i + 1, l, by go_num, HO, hbel, .inl ⟨st, rfl, by omega, HC1⟩⟩
          case measure => simp [intOf]; omega
      · obtain rfl : i = s.size := by omega
        have HPS : Hid (Parts p s (l ++ [s.extract st s.size]) ∧ (l ++ [s.extract st s.size]).length ≤ s.size + 1) := ⟨HC.out.done, by rw [List.length_append, List.length_singleton]; omega⟩
        have HO2 : Hid (OwnT (wr.alloc (.cells #[.string (s.extract st s.size)] 9)) w.heap.size (.slice la l.length lc) l) := own_below (push (Below.refl _ _) _) HO.out
        have hb2 : Below w.heap.size w (wr.alloc (.cells #[.string (s.extract st s.size)] 9)) := push hbel _
        have hsz := hb2.size
        have i1 : (0 : Int) ≤ (st : Int) := by omega
        have i2 : (st : Int) ≤ (s.size : Int) := by omega
        have n1 : ((s.size : Int) == (s.size : Int)) = true := by simp
        have hw1 : IntKind.i64.wrap ((s.size : Int) + 1) = ((s.size + 1 : Nat) : Int) := by rw [IntKind.wrap_i64]; omega
        clear hbel HO
        go_wp2_with (first | (at_builtin; refine wpList_append_any _ (by rfl) (.tmp 25) (.tmp 30) 64 (by rfl) w.heap.size 9 j0 (.string ⟨#[]⟩) 1 16 Tryd.underlying64 ji jz0 jz1 jz2 rfl (by decide) _ l.length (l.map Value.string) (by rfl) HO2.out (some ⟨wr.heap.size, 0, none⟩) 1 1 [.string (s.extract st s.size)] (by rfl) (fun h => by cases h) (by rfl) (fun ad h => by cases h; exact World.news_of_block (heap_alloc_new wr _)) (by intro u hu; simp only [List.mem_cons, List.not_mem_nil, or_false] at hu; subst hu; rfl) (by unfold maxLen; omega) (by omega) hsz ?_; intro v9 w9 ho9 hg9; have hb9 := hb2.grown hg9 hsz (fun j hj => (World.ownsRow.lt HO2.out j hj).1); have HO9 : Hid (OwnT w9 w.heap.size v9 (l ++ [s.extract st s.size])) := (by unfold OwnT; rw [List.length_append, List.map_append]; exact ho9); clear ho9 hg9))
        go_roundw
        case rel => exact ⟨s.size + 1, _, by go_num, HO9, hb9, .inr ⟨_, by go_num, rfl, HPS⟩⟩
        case measure => simp [intOf]
    · have g1 : decide (((s.size + 1 : Nat) : Int) ≤ (s.size : Int)) = false := decide_eq_false (by omega)
      have g1' : decide (s.size + 1 ≤ s.size) = false := decide_eq_false (by omega)
      have g2 : decide ((s.size : Int) + 1 ≤ (s.size : Int)) = false := decide_eq_false (by omega)
      go_wp2
      go_ret
      exact ⟨_, _, rfl, HO.out, HP.out, hbel⟩

end Go.Proofs.YtfbooamjddnagaaDoor
