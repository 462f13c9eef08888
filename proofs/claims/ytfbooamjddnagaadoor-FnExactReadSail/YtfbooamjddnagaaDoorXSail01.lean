/-
  OWN TEXT: SpecSp, SpecNb, WordI, CutI.
-/
import Derived.Deep.LoopGhost
import Derived.Deep.DeepCutAuto
import Derived.Shelf.Strconv.Clone
import Derived.Shelf.Strings.Search2
import Derived.Lib.IndexLaws
import Derived.Test.YtfbooamjddnagaaDoorXSail00
import Derived.Test.YtfbooamjddnagaaDoorB10
namespace Go.Proofs.YtfbooamjddnagaaDoor
open Go.RowKit

set_option maxHeartbeats 1600000 in
set_option maxRecDepth 100000 in
theorem l11Split_any (s : ByteArray) (p : UInt8) (w : World) (hs : s.size ≤ 1048576) :
    Calls Tryd.prog 37 #[.string s, .int .u8 p.toNat] w fun e w' => ∃ v l, e = .returned v ∧ OwnT w' w.heap.size v l ∧ Hid (Parts p s l ∧ l.length ≤ s.size + 1) ∧ Below w.heap.size w w' := by
  obtain ⟨j0, ji, jz0, jz1, jz2⟩ := info_parts Tryd.infoText
  go_enter Tryd.func37, Tryd.ntmps37
  go_wp2
  go_loopw [5, 6, 7] (fun v vs vi wr => ∃ (i : Nat) (l : List ByteArray), vi = .int .i64 i ∧ Hid (OwnT wr w.heap.size v l) ∧ Below w.heap.size w wr ∧ ((∃ st : Nat, vs = .int .i64 st ∧ i ≤ s.size ∧ Hid (CutAt p s i st l)) ∨ (∃ st : Int, vs = .int .i64 st ∧ i = s.size + 1 ∧ Hid (Parts p s l ∧ l.length ≤ s.size + 1))))
    (fun _ _ vi _ => s.size + 1 - (intOf vi).toNat)
  case atStart => exact ⟨0, [], rfl, World.ownsRow_nil _ _ _ _, Below.refl _ _, .inl ⟨0, rfl, Nat.zero_le _, CutAt.start p s⟩⟩
  case round =>
    obtain ⟨i, l, rfl, HO, hbel, hcase⟩ := hrel
    obtain ⟨la, lc, rfl, _⟩ := own_form HO.out
    rcases hcase with ⟨st, rfl, hi, HC⟩ | ⟨st, rfl, rfl, HP⟩
    · have hst := HC.out.1
      have hll := HC.out.2.2.1
      have g1 : decide ((i : Int) ≤ (s.size : Int)) = true := decide_eq_true (by omega)
      have g1' : decide (i ≤ s.size) = true := decide_eq_true hi
      by_cases hlt : i < s.size
      · by_cases he : s[i]'hlt = p
        · have HC1 : Hid (CutAt p s (i + 1) (i + 1) (l ++ [s.extract st i])) := HC.out.sep hlt he
          have ep : ((p.toNat : Int) == (p.toNat : Int)) = true := by simp
          have e1 : ((s[i]'hlt).toNat : Int) = (p.toNat : Int) := by rw [he]
          have e2 : (s[i]'hlt).toNat = p.toNat := by rw [he]
          have n1 : ((i : Int) == (s.size : Int)) = false := by rw [beq_eq_false_iff_ne]; omega
          have n2 : (i == s.size) = false := by rw [beq_eq_false_iff_ne]; omega
          have hw1 : IntKind.i64.wrap ((i : Int) + 1) = ((i + 1 : Nat) : Int) := by rw [IntKind.wrap_i64]; omega
          have i1 : (0 : Int) ≤ (st : Int) := by omega
          have i2 : (st : Int) ≤ (i : Int) := by omega
          have i3 : (i : Int) ≤ (s.size : Int) := by omega
          have HO2 : Hid (OwnT (wr.alloc (.cells #[.string (s.extract st i)] 9)) w.heap.size (.slice la l.length lc) l) := own_below (push (Below.refl _ _) _) HO.out
          have hb2 : Below w.heap.size w (wr.alloc (.cells #[.string (s.extract st i)] 9)) := push hbel _
          have hsz := hb2.size
          clear hbel HO he
          go_wp2_with (first | (at_builtin; refine wpList_append_any _ (by rfl) (.tmp 25) (.tmp 30) 64 (by rfl) w.heap.size 9 j0 (.string ⟨#[]⟩) 1 16 Tryd.underlying64 ji jz0 jz1 jz2 rfl (by decide) _ l.length (l.map Value.string) (by rfl) HO2.out (some ⟨wr.heap.size, 0, none⟩) 1 1 [.string (s.extract st i)] (by rfl) (fun h => by cases h) (by rfl) (fun ad h => by cases h; exact World.news_of_block (heap_alloc_new wr _)) (by intro u hu; simp only [List.mem_cons, List.not_mem_nil, or_false] at hu; subst hu; rfl) (by unfold maxLen; omega) (by omega) hsz ?_; intro v9 w9 ho9 hg9; have hb9 := hb2.grown hg9 hsz (fun j hj => (World.ownsRow.lt HO2.out j hj).1); have HO9 : Hid (OwnT w9 w.heap.size v9 (l ++ [s.extract st i])) := (by unfold OwnT; rw [List.length_append, List.map_append]; exact ho9); clear ho9 hg9))
          go_roundw
          case rel => exact ⟨i + 1, _, by go_num, HO9, hb9, .inl ⟨i + 1, by go_num, by omega, HC1⟩⟩
          case measure => simp [intOf]; omega
        · have HC1 : Hid (CutAt p s (i + 1) st l) := HC.out.skip (by omega) (by omega) (fun j h1 h2 hj => by
            obtain rfl : i = j := by omega
            exact he)
          have hne : (s[i]'hlt).toNat ≠ p.toNat := fun e => he (UInt8.toNat_inj.1 e)
          have hne' : (((s[i]'hlt).toNat : Int) == (p.toNat : Int)) = false := by rw [beq_eq_false_iff_ne]; omega
          have n1 : ((i : Int) == (s.size : Int)) = false := by rw [beq_eq_false_iff_ne]; omega
          have n2 : (i == s.size) = false := by rw [beq_eq_false_iff_ne]; omega
          clear he
          go_wp2
          go_roundw
          case rel => exact ⟨i + 1, l, by go_num, HO, hbel, .inl ⟨st, rfl, by omega, HC1⟩⟩
          case measure => simp [intOf]; omega
      · obtain rfl : i = s.size := by omega
        have HPS : Hid (Parts p s (l ++ [s.extract st s.size]) ∧ (l ++ [s.extract st s.size]).length ≤ s.size + 1) := ⟨HC.out.done, by rw [List.length_append, List.length_singleton]; omega⟩
        have HO2 : Hid (OwnT (wr.alloc (.cells #[.string (s.extract st s.size)] 9)) w.heap.size (.slice la l.length lc) l) := own_below (push (Below.refl _ _) _) HO.out
        have hb2 : Below w.heap.size w (wr.alloc (.cells #[.string (s.extract st s.size)] 9)) := push hbel _
        have hsz := hb2.size
        have i1 : (0 : Int) ≤ (st : Int) := by omega
        have i2 : (st : Int) ≤ (s.size : Int) := by omega
        have n1 : ((s.size : Int) == (s.size : Int)) = true := by simp
        have hw1 : IntKind.i64.wrap ((s.size : Int) + 1) = ((s.size + 1 : Nat) : Int) := by rw [IntKind.wrap_i64]; omega
        clear hbel HO
        go_wp2_with (first | (at_builtin; refine wpList_append_any _ (by rfl) (.tmp 25) (.tmp 30) 64 (by rfl) w.heap.size 9 j0 (.string ⟨#[]⟩) 1 16 Tryd.underlying64 ji jz0 jz1 jz2 rfl (by decide) _ l.length (l.map Value.string) (by rfl) HO2.out (some ⟨wr.heap.size, 0, none⟩) 1 1 [.string (s.extract st s.size)] (by rfl) (fun h => by cases h) (by rfl) (fun ad h => by cases h; exact World.news_of_block (heap_alloc_new wr _)) (by intro u hu; simp only [List.mem_cons, List.not_mem_nil, or_false] at hu; subst hu; rfl) (by unfold maxLen; omega) (by omega) hsz ?_; intro v9 w9 ho9 hg9; have hb9 := hb2.grown hg9 hsz (fun j hj => (World.ownsRow.lt HO2.out j hj).1); have HO9 : Hid (OwnT w9 w.heap.size v9 (l ++ [s.extract st s.size])) := (by unfold OwnT; rw [List.length_append, List.map_append]; exact ho9); clear ho9 hg9))
        go_roundw
        case rel => exact ⟨s.size + 1, _, by go_num, HO9, hb9, .inr ⟨_, by go_num, rfl, HPS⟩⟩
        case measure => simp [intOf]
    · have g1 : decide (((s.size + 1 : Nat) : Int) ≤ (s.size : Int)) = false := decide_eq_false (by omega)
      have g1' : decide (s.size + 1 ≤ s.size) = false := decide_eq_false (by omega)
      have g2 : decide ((s.size : Int) + 1 ≤ (s.size : Int)) = false := decide_eq_false (by omega)
      go_wp2
      go_ret
      exact ⟨_, _, rfl, HO.out, HP.out, hbel⟩

end Go.Proofs.YtfbooamjddnagaaDoor

namespace Go.Proofs.YtfbooamjddnagaaDoor
open Go.RowKit

set_option maxHeartbeats 1600000 in
set_option maxRecDepth 100000 in
theorem l11Number_any (s : ByteArray) (w : World) :
    Calls Tryd.prog 40 #[.string s] w fun e w' => e = .returned (.int .i64 (numOf s)) ∧ w' = w := by
  by_cases h0 : In (s.size : Int) 1 5
  case neg =>
    have HR : Hid (-1 = numOf s) := (numOf_long (fun h => h0 ⟨by omega, by omega⟩)).symm
    have d0 : decide (In (s.size : Int) 1 5) = false := decide_eq_false h0
    clear h0
    go_enter Tryd.func40, Tryd.ntmps40
    go_wp2_with (first | (go_at_call 27; refine (l1In_is _ _ _ _).mono ?_; rintro e w' ⟨rfl, hw'⟩; have hw' := hw'.symm; subst hw'))
    go_ret
    exact ⟨congrArg (fun z => Ending.returned (Value.int .i64 z)) HR.out, rfl⟩
  have d0 : decide (In (s.size : Int) 1 5) = true := decide_eq_true h0
  have h1 : 0 < s.size := by have := h0.1; omega
  have h5 : s.size ≤ 5 := by have := h0.2; omega
  clear h0
  have hl : s.data.toList.length = s.size := Array.length_toList
  have hz := get_at h1
  have hh : s.data.toList.head? = some (s[0]'h1) := by rw [List.head?_eq_getElem?]; exact hz
  clear hz
  have key : ∀ (c : UInt8), c = s[0]'h1 → (c ≠ 48 ∨ s.size = 1) → Hid (s.size = 1 ∨ s.data.toList.head? ≠ some 48) := fun c hc h => by
    rcases h with h | h
    · exact .inr (by rw [hh, ← hc]; simpa using h)
    · exact .inl h
  by_cases hc : s[0]'h1 = 48
  · by_cases h2 : 1 < s.size
    · have HR : Hid (-1 = numOf s) := (numOf_nought h2 (by rw [hh, hc])).symm
      have d1 : decide (1 < s.size) = true := decide_eq_true h2
      have d2 : decide ((1 : Int) < (s.size : Int)) = true := decide_eq_true (by omega)
      have e0 : (s[0]'h1).toNat = 48 := by rw [hc]; rfl
      have e1 : ((s[0]'h1).toNat == 48) = true := by rw [e0]; rfl
      have e2 : (((s[0]'h1).toNat : Int) == 48) = true := by rw [e0]; rfl
      clear key hh hc
      go_enter Tryd.func40, Tryd.ntmps40
      go_wp2_with (first | (go_at_call 27; refine (l1In_is _ _ _ _).mono ?_; rintro e w' ⟨rfl, hw'⟩; have hw' := hw'.symm; subst hw'))
      go_ret
      exact ⟨congrArg (fun z => Ending.returned (Value.int .i64 z)) HR.out, rfl⟩
    · have HH := key _ rfl (.inr (by omega))
      have d1 : decide (1 < s.size) = false := decide_eq_false h2
      have d2 : decide ((1 : Int) < (s.size : Int)) = false := decide_eq_false (by omega)
      have e0 : (s[0]'h1).toNat = 48 := by rw [hc]; rfl
      have e1 : ((s[0]'h1).toNat == 48) = true := by rw [e0]; rfl
      have e2 : (((s[0]'h1).toNat : Int) == 48) = true := by rw [e0]; rfl
      clear key hh hc
      go_enter Tryd.func40, Tryd.ntmps40
      go_wp2_with (first | (go_at_call 27; refine (l1In_is _ _ _ _).mono ?_; rintro e w' ⟨rfl, hw'⟩; have hw' := hw'.symm; subst hw'))
      clear e0 e1 e2
      go_loop [3, 4] (fun v i => ∃ k : Nat, k ≤ s.size ∧ v = .int .i64 (valL (s.data.toList.take k) : Int) ∧ i = .int .i64 k ∧ Hid (∀ c, c ∈ s.data.toList.take k → Digit c)) (fun _ i => s.size - (intOf i).toNat)
      case atStart => exact ⟨0, Nat.zero_le _, rfl, rfl, fun c hc => by simp at hc⟩
      case round =>
        obtain ⟨k, hk, rfl, rfl, HD⟩ := hrel
        by_cases hp : k < s.size
        · have hmem : s[k]'hp ∈ s.data.toList := List.mem_of_getElem? (get_at hp)
          by_cases hd : Digit (s[k]'hp)
          · have HD1 : Hid (∀ c, c ∈ s.data.toList.take (k + 1) → Digit c) := fun c hc => by
              rw [List.take_add_one, get_at hp] at hc
              rcases List.mem_append.1 hc with hc | hc
              · exact HD.out c hc
              · simp at hc; rw [hc]; exact hd
            have HV : Hid (valL (s.data.toList.take (k + 1)) = 10 * valL (s.data.toList.take k) + ((s[k]'hp).toNat - 48)) := by
              rw [List.take_add_one, get_at hp]
              exact valL_snoc _ _
            have hvs : valL (s.data.toList.take k) < 100000 := by
              have h1 := val_lt _ HD.out
              have h2 : (s.data.toList.take k).length ≤ 5 := by rw [List.length_take]; omega
              have : (10 : Nat) ^ (s.data.toList.take k).length ≤ 10 ^ 5 := Nat.pow_le_pow_right (by decide) h2
              omega
            unfold Digit at hd
            obtain ⟨c, hc⟩ : ∃ c : Nat, (s[k]'hp).toNat = c := ⟨_, rfl⟩
            have hcc : ((s[k]'hp).toNat : Int) = (c : Int) := by rw [hc]
            have HC : Hid ((s[k]'hp).toNat = c) := hc
            rw [hc] at hd
            generalize valL (s.data.toList.take k) = V at hvs HV ⊢
            have f1 : decide ((c : Int) < 48) = false := decide_eq_false (by omega)
            have f2 : decide ((57 : Int) < (c : Int)) = false := decide_eq_false (by omega)
            have f1' : decide (c < 48) = false := decide_eq_false (by omega)
            have f2' : decide (57 < c) = false := decide_eq_false (by omega)
            have w1 : IntKind.i64.wrap (10 * (V : Int)) = 10 * (V : Int) := by rw [IntKind.wrap_i64]; omega
            have w2 : IntKind.u8.wrap ((c : Int) - 48) = (c : Int) - 48 := by unfold IntKind.wrap; simp [IntKind.bits, IntKind.signed]; omega
            have w3 : IntKind.i64.wrap ((c : Int) - 48) = (c : Int) - 48 := by rw [IntKind.wrap_i64]; omega
            have w4 : IntKind.i64.wrap (10 * (V : Int) + ((c : Int) - 48)) = 10 * (V : Int) + ((c : Int) - 48) := by rw [IntKind.wrap_i64]; omega
            clear hmem HD
            go_wp2
            go_round
            case rel => exact ⟨k + 1, by omega, by rw [HV.out, HC.out]; congr 1; omega, by go_num, HD1⟩
            case measure => simp [intOf]; omega
          · have HR : Hid (-1 = numOf s) := (numOf_sign hmem hd).symm
            unfold Digit at hd
            obtain ⟨c, hc⟩ : ∃ c : Nat, (s[k]'hp).toNat = c := ⟨_, rfl⟩
            have hcc : ((s[k]'hp).toNat : Int) = (c : Int) := by rw [hc]
            rw [hc] at hd
            generalize valL (s.data.toList.take k) = V
            clear hmem HD
            by_cases h48 : c < 48
            · have f1 : decide ((c : Int) < 48) = true := decide_eq_true (by omega)
              have f1' : decide (c < 48) = true := decide_eq_true h48
              go_wp2
              go_ret
              exact ⟨congrArg (fun z => Ending.returned (Value.int .i64 z)) HR.out, rfl⟩
            · have f1 : decide ((c : Int) < 48) = false := decide_eq_false (by omega)
              have f1' : decide (c < 48) = false := decide_eq_false h48
              have f2 : decide ((57 : Int) < (c : Int)) = true := decide_eq_true (by omega)
              have f2' : decide (57 < c) = true := decide_eq_true (by omega)
              go_wp2
              go_ret
              exact ⟨congrArg (fun z => Ending.returned (Value.int .i64 z)) HR.out, rfl⟩
        · obtain rfl : k = s.size := by omega
          have hall : s.data.toList.take s.size = s.data.toList := List.take_of_length_le (by omega)
          rw [hall] at HD ⊢
          have HR : Hid ((valL s.data.toList : Int) = numOf s) := (numOf_plain h1 h5 HD.out HH.out).symm
          generalize valL s.data.toList = V at HR ⊢
          go_wp2
          go_ret
          exact ⟨congrArg (fun z => Ending.returned (Value.int .i64 z)) HR.out, rfl⟩
  · have HH := key _ rfl (.inl hc)
    have e0 : (s[0]'h1).toNat ≠ 48 := fun e => hc (UInt8.toNat_inj.1 e)
    have e1 : ((s[0]'h1).toNat == 48) = false := by rw [beq_eq_false_iff_ne]; exact e0
    have e2 : (((s[0]'h1).toNat : Int) == 48) = false := by rw [beq_eq_false_iff_ne]; omega
    clear key hh hc
    go_enter Tryd.func40, Tryd.ntmps40
    go_wp2_with (first | (go_at_call 27; refine (l1In_is _ _ _ _).mono ?_; rintro e w' ⟨rfl, hw'⟩; have hw' := hw'.symm; subst hw'))
    clear e0 e1 e2
    go_loop [3, 4] (fun v i => ∃ k : Nat, k ≤ s.size ∧ v = .int .i64 (valL (s.data.toList.take k) : Int) ∧ i = .int .i64 k ∧ Hid (∀ c, c ∈ s.data.toList.take k → Digit c)) (fun _ i => s.size - (intOf i).toNat)
    case atStart => exact ⟨0, Nat.zero_le _, rfl, rfl, fun c hc => by simp at hc⟩
    case round =>
      obtain ⟨k, hk, rfl, rfl, HD⟩ := hrel
      by_cases hp : k < s.size
      · have hmem : s[k]'hp ∈ s.data.toList := List.mem_of_getElem? (get_at hp)
        by_cases hd : Digit (s[k]'hp)
        · have HD1 : Hid (∀ c, c ∈ s.data.toList.take (k + 1) → Digit c) := fun c hc => by
            rw [List.take_add_one, get_at hp] at hc
            rcases List.mem_append.1 hc with hc | hc
            · exact HD.out c hc
            · simp at hc; rw [hc]; exact hd
          have HV : Hid (valL (s.data.toList.take (k + 1)) = 10 * valL (s.data.toList.take k) + ((s[k]'hp).toNat - 48)) := by
            rw [List.take_add_one, get_at hp]
            exact valL_snoc _ _
          have hvs : valL (s.data.toList.take k) < 100000 := by
            have h1 := val_lt _ HD.out
            have h2 : (s.data.toList.take k).length ≤ 5 := by rw [List.length_take]; omega
            have : (10 : Nat) ^ (s.data.toList.take k).length ≤ 10 ^ 5 := Nat.pow_le_pow_right (by decide) h2
            omega
          unfold Digit at hd
          obtain ⟨c, hc⟩ : ∃ c : Nat, (s[k]'hp).toNat = c := ⟨_, rfl⟩
          have hcc : ((s[k]'hp).toNat : Int) = (c : Int) := by rw [hc]
          have HC : Hid ((s[k]'hp).toNat = c) := hc
          rw [hc] at hd
          generalize valL (s.data.toList.take k) = V at hvs HV ⊢
          have f1 : decide ((c : Int) < 48) = false := decide_eq_false (by omega)
          have f2 : decide ((57 : Int) < (c : Int)) = false := decide_eq_false (by omega)
          have f1' : decide (c < 48) = false := decide_eq_false (by omega)
          have f2' : decide (57 < c) = false := decide_eq_false (by omega)
          have w1 : IntKind.i64.wrap (10 * (V : Int)) = 10 * (V : Int) := by rw [IntKind.wrap_i64]; omega
          have w2 : IntKind.u8.wrap ((c : Int) - 48) = (c : Int) - 48 := by unfold IntKind.wrap; simp [IntKind.bits, IntKind.signed]; omega
          have w3 : IntKind.i64.wrap ((c : Int) - 48) = (c : Int) - 48 := by rw [IntKind.wrap_i64]; omega
          have w4 : IntKind.i64.wrap (10 * (V : Int) + ((c : Int) - 48)) = 10 * (V : Int) + ((c : Int) - 48) := by rw [IntKind.wrap_i64]; omega
          clear hmem HD
          go_wp2
          go_round
          case rel => exact ⟨k + 1, by omega, by rw [HV.out, HC.out]; congr 1; omega, by go_num, HD1⟩
          case measure => simp [intOf]; omega
        · have HR : Hid (-1 = numOf s) := (numOf_sign hmem hd).symm
          unfold Digit at hd
          obtain ⟨c, hc⟩ : ∃ c : Nat, (s[k]'hp).toNat = c := ⟨_, rfl⟩
          have hcc : ((s[k]'hp).toNat : Int) = (c : Int) := by rw [hc]
          rw [hc] at hd
          generalize valL (s.data.toList.take k) = V
          clear hmem HD
          by_cases h48 : c < 48
          · have f1 : decide ((c : Int) < 48) = true := decide_eq_true (by omega)
            have f1' : decide (c < 48) = true := decide_eq_true h48
            go_wp2
            go_ret
            exact ⟨congrArg (fun z => Ending.returned (Value.int .i64 z)) HR.out, rfl⟩
          · have f1 : decide ((c : Int) < 48) = false := decide_eq_false (by omega)
            have f1' : decide (c < 48) = false := decide_eq_false h48
            have f2 : decide ((57 : Int) < (c : Int)) = true := decide_eq_true (by omega)
            have f2' : decide (57 < c) = true := decide_eq_true (by omega)
            go_wp2
            go_ret
            exact ⟨congrArg (fun z => Ending.returned (Value.int .i64 z)) HR.out, rfl⟩
      · obtain rfl : k = s.size := by omega
        have hall : s.data.toList.take s.size = s.data.toList := List.take_of_length_le (by omega)
        rw [hall] at HD ⊢
        have HR : Hid ((valL s.data.toList : Int) = numOf s) := (numOf_plain h1 h5 HD.out HH.out).symm
        generalize valL s.data.toList = V at HR ⊢
        go_wp2
        go_ret
        exact ⟨congrArg (fun z => Ending.returned (Value.int .i64 z)) HR.out, rfl⟩

end Go.Proofs.YtfbooamjddnagaaDoor

namespace Go.Proofs
open Go.Shelf
shelf_lay LaysM.n316 Nm 316 at Tryd as Tryd.lays316
end Go.Proofs

namespace Go.Proofs.YtfbooamjddnagaaDoor
open Go.RowKit

/-- The box b has the words l. -/
def WSt (w : World) (b : Nat) (l : List ByteArray) : Prop :=
  ∃ (ao : Option Addr) (c : Nat), w.heap[b]? = some (.cells #[.slice ao l.length c] 119 (0, 0)) ∧ l.length ≤ c ∧ c ≤ maxLen ∧
    ∀ j x, l[j]? = some x → ∃ g off cur, ao = some ⟨g, off, none⟩ ∧ w.cell? ⟨g, off + j, none⟩ = some (.string x) ∧ w.heap[g]? = some (.cells cur 9 (0, 0))
theorem WSt.kept {w w' : World} {b : Nat} {l : List ByteArray} {S : Nat → Prop} (h : WSt w b l) (hk : Kept w w' S) (hb : ¬ S b) (hS : ∀ g cur, w.heap[g]? = some (.cells cur 9 (0, 0)) → ¬ S g) : WSt w' b l := by
  obtain ⟨ao, c, h1, h2, h3, h4⟩ := h
  refine ⟨ao, c, hk.blk h1 hb, h2, h3, fun j x hx => ?_⟩
  obtain ⟨g, off, cur, e, k1, k2⟩ := h4 j x hx
  refine ⟨g, off, cur, e, ?_, hk.blk k2 (hS g cur k2)⟩
  rw [← k1]
  exact World.cell?_of_block ((hk.blk k2 (hS g cur k2)).trans k2.symm)
theorem WSt.below {w w' : World} {b : Nat} {l : List ByteArray} (h : WSt w b l) (hb : Below w.heap.size w w') : WSt w' b l := h.kept (Kept.of_below (S := fun _ => False) hb) (fun h => h) (fun _ _ _ h => h)

theorem pow_kept {w w' : World} {S : Nat → Prop} (h : PowAt w) (hk : Kept w w' S) (hg : ¬ S 4) : PowAt w' := by
  unfold PowAt Lib.TabIs World.var? at *
  rw [Tryd.gPow] at h ⊢
  simp only [Option.bind_some] at h ⊢
  have hlt : 4 < w.heap.size := by
    rcases Nat.lt_or_ge 4 w.heap.size with h' | h'
    · exact h'
    · rw [Array.getElem?_eq_none h'] at h; simp at h
  rw [hk.block _ hlt hg]
  exact h
theorem wordsIn_any (s : ByteArray) (w : World) (hs : s.size ≤ 1048576) :
    Calls Tryd.prog 45 #[.string s] w fun e w' => ∃ b l, e = .returned (.pointer (some ⟨b, 0, none⟩)) ∧ w.heap.size ≤ b ∧ Hid (WSt w' b l ∧ Parts 32 s l ∧ l.length ≤ s.size + 1) ∧ Below w.heap.size w w' := by
  go_enter Tryd.func45, Tryd.ntmps45
  go_wp2_with fail
  refine (partsIn_any s 32 _ (by decide) hs).mono ?_
  rintro e w2 ⟨v, l, rfl, ho, hp, hb⟩
  obtain ⟨ao, c, rfl, hc, hm, hn⟩ := own_form ho
  have hW : WSt (w2.alloc (.cells #[.slice ao l.length c] 119)) w2.heap.size l := by
    refine ⟨ao, c, heap_alloc_new w2 _, hc, hm, fun j x hx => ?_⟩
    have hj : j < l.length := by
      rcases Nat.lt_or_ge j l.length with h | h
      · exact h
      · rw [List.getElem?_eq_none h] at hx; cases hx
    obtain ⟨g, rfl, _, hg⟩ := own_addr ho (by omega)
    have hcell : w2.cell? ⟨g, j, none⟩ = some (.string x) := by rw [World.ownsRow.cellAt ho j (by omega), List.getElem?_map, hx]; rfl
    rcases ho.2 with ⟨h0, _⟩ | ⟨g', cap', cur, hv, _, hg', _⟩
    · cases h0
    · simp only [Value.slice.injEq, Option.some.injEq, Addr.mk.injEq] at hv
      obtain ⟨⟨rfl, _, _⟩, _, rfl⟩ := hv
      exact ⟨g, 0, cur, rfl, by rw [Nat.zero_add]; exact ((push (Below.refl _ w2) _).cell hg).trans hcell, blk_alloc hg' _⟩
  have HW : Hid (WSt (w2.alloc (.cells #[.slice ao l.length c] 119)) w2.heap.size l ∧ Parts 32 s l ∧ l.length ≤ s.size + 1) := ⟨hW, hp.out⟩
  have hb2 : Below w.heap.size w (w2.alloc (.cells #[.slice ao l.length c] 119)) := push hb _
  have hsz := hb.size
  clear hW hp ho
  go_wp2
  go_ret
  exact ⟨_, l, rfl, hsz, HW, hb2⟩

set_option maxHeartbeats 800000 in
theorem next_any (b : Nat) (l : List ByteArray) (w : World) (h : WSt w b l) :
    Calls Tryd.prog 82 #[.pointer (some ⟨b, 0, none⟩)] w fun e w' => e = .returned (.string (l.headD ⟨#[]⟩)) ∧ Hid (WSt w' b l.tail) ∧ Kept w w' (fun k => k = b) := by
  cases l with
  | nil =>
    have HW : Hid (WSt w b []) := h
    obtain ⟨ao, c, h1, _⟩ := h
    have y0 := blk_cell h1 0 _ rfl
    simp only [List.length_nil] at y0
    go_enter Tryd.func82, Tryd.ntmps82
    go_wp2
    go_ret
    exact ⟨rfl, HW, Kept.refl _ _⟩
  | cons x r =>
    have HW : Hid (WSt w b (x :: r)) := h
    obtain ⟨ao, c, h1, h2, h3, h4⟩ := h
    obtain ⟨g, off, cur, rfl, k1, k2⟩ := h4 0 x rfl
    have y0 := blk_cell h1 0 _ rfl
    have f0 := blk_free h1 0
    rw [List.length_cons] at y0 h2
    rw [Nat.add_zero] at k1
    have hne : g ≠ b := fun e => by
      rw [e, h1] at k2
      simp only [Option.some.injEq, Obj.cells.injEq] at k2
      exact absurd k2.2.1 (by decide)
    have H4 : Hid (∀ j y, (x :: r)[j]? = some y → ∃ g' off' cur, (some ⟨g, off, none⟩ : Option Addr) = some ⟨g', off', none⟩ ∧ w.cell? ⟨g', off' + j, none⟩ = some (.string y) ∧ w.heap[g']? = some (.cells cur 9 (0, 0))) := h4
    have H1 : Hid (w.heap[b]? = some (.cells #[.slice (some ⟨g, off, none⟩) (x :: r).length c] 119 (0, 0))) := h1
    have d0 : (((r.length + 1 : Nat) : Int) == 0) = false := by rw [beq_eq_false_iff_ne]; omega
    have d1 : (((r.length : Int) + 1) == 0) = false := by rw [beq_eq_false_iff_ne]; omega
    have i1 : (1 : Int) ≤ (r.length : Int) + 1 := by omega
    clear h4 h1 h3
    have key : ∀ (ad : Option Addr) (c' : Nat), c' = c - 1 → (0 < r.length → ad = some ⟨g, off + 1, none⟩) → WSt (w.setCell ⟨b, 0, none⟩ (.slice ad r.length c')) b r := fun ad c' hc' had => by
      refine ⟨ad, c', blk_set H1.out 0 _, by omega, by have := HW.out; obtain ⟨_, c2, q1, _, q3, _⟩ := this; rw [H1.out] at q1; simp at q1; omega, fun j y hy => ?_⟩
      have hj : j < r.length := by
        rcases Nat.lt_or_ge j r.length with h | h
        · exact h
        · rw [List.getElem?_eq_none h] at hy; cases hy
      obtain ⟨g', off', cur', e, q1, q2⟩ := H4.out (j + 1) y (by simpa using hy)
      simp only [Option.some.injEq, Addr.mk.injEq, and_true] at e
      obtain ⟨rfl, rfl⟩ := e
      refine ⟨g, off + 1, cur', had (by omega), ?_, blk_set_other q2 0 _ hne⟩
      rw [show off + 1 + j = off + (j + 1) by omega, ← q1]
      exact World.cell?_of_block ((blk_set_other q2 0 _ hne).trans q2.symm)
    have HKEY : Hid (∀ (ad : Option Addr) (c' : Nat), c' = c - 1 → (0 < r.length → ad = some ⟨g, off + 1, none⟩) → WSt (w.setCell ⟨b, 0, none⟩ (.slice ad r.length c')) b r) := key
    clear key
    by_cases hc : c = 1
    · subst hc
      have hr0 : r.length = 0 := by omega
      go_enter Tryd.func82, Tryd.ntmps82
      go_wp2
      go_ret
      refine ⟨rfl, ?_, (Kept.refl w (fun k => k = b)).set (a := ⟨b, 0, none⟩) rfl _⟩
      show WSt _ b r
      have hk9 := HKEY.out (some ⟨g, off, none⟩) 0 rfl (fun h => by omega)
      rw [hr0] at hk9
      first | exact hk9 | (simpa [hr0] using hk9)
    · have hc1 : (c = 1) = False := eq_false hc
      go_enter Tryd.func82, Tryd.ntmps82
      go_wp2
      go_ret
      refine ⟨rfl, ?_, (Kept.refl w (fun k => k = b)).set (a := ⟨b, 0, none⟩) rfl _⟩
      show WSt _ b r
      exact HKEY.out _ _ (by first | rfl | omega) (fun h => by first | rfl | simp)

set_option maxRecDepth 100000 in
theorem name_any (b : Nat) (l : List ByteArray) (w : World) (h : WSt w b l) (hl : (l.headD ⟨#[]⟩).size ≤ 281474976710656) :
    Calls Tryd.prog 84 #[.pointer (some ⟨b, 0, none⟩)] w fun e w' => e = .returned (.string (l.headD ⟨#[]⟩)) ∧ Hid (WSt w' b l.tail) ∧ Kept w w' (fun k => k = b) := by
  generalize hx : l.headD ⟨#[]⟩ = x at hl ⊢
  have hc : ∀ W : World, Calls Tryd.prog 116 #[.string x] W fun e w' => e = .returned (.string x) ∧ Below W.heap.size W w' := fun W => by
    go_enter Tryd.func116, Tryd.ntmps116
    go_wp2_with fail
    refine (Any.stringslite_Clone Tryd.lays316 x _ hl).mono ?_
    rintro e w2 ⟨rfl, hb⟩
    go_wp2
    go_ret
    exact ⟨rfl, hb⟩
  have HC : Hid (∀ W : World, Calls Tryd.prog 116 #[.string x] W fun e w' => e = .returned (.string x) ∧ Below W.heap.size W w') := hc
  have cn := next_any b l w h
  rw [hx] at cn
  clear hc hx h
  go_enter Tryd.func84, Tryd.ntmps84
  go_wp2_with fail
  refine cn.mono ?_
  clear cn
  rintro e w2 ⟨rfl, HW, hk⟩
  go_wp2_with fail
  refine (HC.out _).mono ?_
  rintro e w3 ⟨rfl, hb⟩
  have HW3 : Hid (WSt w3 b l.tail) := HW.out.below hb
  clear HW
  go_wp2
  go_ret
  exact ⟨rfl, HW3, hk.trans (Kept.of_below hb)⟩

set_option maxRecDepth 100000 in
theorem number_any (b : Nat) (l : List ByteArray) (w : World) (h : WSt w b l) (hP : PowAt w) (hg : 4 ≠ b) :
    Calls Tryd.prog 83 #[.pointer (some ⟨b, 0, none⟩)] w fun e w' => e = .returned (.int .i64 (numOf (l.headD ⟨#[]⟩))) ∧ Hid (WSt w' b l.tail) ∧ Kept w w' (fun k => k = b) := by
  generalize hx : l.headD ⟨#[]⟩ = x
  have HP : Hid (PowAt w) := hP
  have cn := next_any b l w h
  rw [hx] at cn
  clear h hP hx
  go_enter Tryd.func83, Tryd.ntmps83
  go_wp2_with fail
  refine cn.mono ?_
  clear cn
  rintro e w2 ⟨rfl, HW, hk⟩
  have hP2 : PowAt w2 := pow_kept (S := fun k => k = b) HP.out hk hg
  have HP2 : Hid (PowAt w2) := hP2
  clear hP2
  go_wp2_with fail
  refine (numberIn_any x _ HP2.out).mono ?_
  rintro e w3 ⟨rfl, hb⟩
  have HW3 : Hid (WSt w3 b l.tail) := HW.out.below hb
  clear HW
  go_wp2
  go_ret
  exact ⟨rfl, HW3, hk.trans (Kept.of_below hb)⟩

end Go.Proofs.YtfbooamjddnagaaDoor

namespace Go.Proofs
open Go.Shelf
shelf_lay Lays.n219 Nm 219 at Tryd as Tryd.lays219
end Go.Proofs

namespace Go.Proofs.YtfbooamjddnagaaDoor
open Go.RowKit

def cutF (p : UInt8) (s : ByteArray) : Bool := decide (0 ≤ Lib.indexByte s.data.toList p)
def cutA (p : UInt8) (s : ByteArray) : ByteArray := if cutF p s = true then s.extract 0 (Lib.indexByte s.data.toList p).toNat else s
def cutB (p : UInt8) (s : ByteArray) : ByteArray := if cutF p s = true then s.extract ((Lib.indexByte s.data.toList p).toNat + 1) s.size else ⟨#[]⟩
theorem index_at {p : UInt8} {s : ByteArray} {o : Nat} (h : Lib.indexByte s.data.toList p = o) : o < s.size := by
  have h1 := (Lib.indexByte_some h).1
  rcases Nat.lt_or_ge o s.data.toList.length with h2 | h2
  · rwa [Array.length_toList] at h2
  · rw [List.getElem?_eq_none h2] at h1; cases h1
theorem cut_is (p : UInt8) (s : ByteArray) : CutIs p s (cutA p s) (cutB p s) (cutF p s) := by
  have hl : s.data.toList.length = s.size := Array.length_toList
  by_cases h : 0 ≤ Lib.indexByte s.data.toList p
  · obtain ⟨o, ho⟩ := Int.eq_ofNat_of_zero_le h
    have hF : cutF p s = true := decide_eq_true h
    have hlt := index_at ho
    obtain ⟨h1, h2⟩ := Lib.indexByte_some ho
    unfold CutIs cutA cutB
    rw [if_pos hF, if_pos hF, ho, Int.toNat_natCast, sub_list, sub_list]
    refine ⟨?_, .inl ⟨hF, ?_⟩⟩
    · intro hm
      obtain ⟨i, hi⟩ := List.mem_iff_getElem?.1 hm
      rw [List.getElem?_take] at hi
      split at hi
      · rename_i hlt2
        simp at hi hlt2
        exact h2 i hlt2 (by simpa using hi)
      · cases hi
    · rw [Nat.sub_zero, List.drop_zero, List.take_of_length_le (l := List.drop (o + 1) s.data.toList) (by rw [List.length_drop]; omega)]
      have h3 : s.data.toList.drop o = p :: s.data.toList.drop (o + 1) := by
        rw [List.drop_eq_getElem_cons (by omega)]
        rw [List.getElem?_eq_getElem (by omega)] at h1
        congr 1
        simpa using h1
      rw [← h3, List.take_append_drop]
  · have hF : cutF p s = false := decide_eq_false h
    have hn : Lib.indexByte s.data.toList p = -1 := by have := Lib.indexByte_ge s.data.toList p; omega
    unfold CutIs cutA cutB
    rw [if_neg (by rw [hF]; decide), if_neg (by rw [hF]; decide)]
    refine ⟨fun hm => ?_, .inr ⟨hF, rfl, rfl⟩⟩
    obtain ⟨i, hi⟩ := List.mem_iff_getElem?.1 hm
    exact Lib.indexByte_none hn i hi
theorem cut_size (p : UInt8) (s : ByteArray) : (cutA p s).size ≤ s.size ∧ (cutB p s).size ≤ s.size := by
  unfold cutA cutB
  constructor
  · split
    · rw [ByteArray.size_extract]; omega
    · exact Nat.le_refl _
  · split
    · rw [ByteArray.size_extract]; omega
    · exact Nat.zero_le _

set_option maxHeartbeats 800000 in
set_option maxRecDepth 100000 in
theorem liteCut_any (s : ByteArray) (p : UInt8) (w : World) (hs : s.size ≤ 1000000000000) :
    Calls Tryd.prog 126 #[.string s, .string ⟨#[p]⟩] w fun e w' => e = .returned (.tuple #[.string (cutA p s), .string (cutB p s), .bool (cutF p s)]) ∧ Below w.heap.size w w' := by
  have hge := Lib.indexByte_ge s.data.toList p
  have h1 : (⟨#[p]⟩ : ByteArray).size = 1 := rfl
  by_cases h : 0 ≤ Lib.indexByte s.data.toList p
  · obtain ⟨o, ho⟩ := Int.eq_ofNat_of_zero_le h
    have hF : cutF p s = true := decide_eq_true h
    have hlt := index_at ho
    have HE : Hid (cutA p s = s.extract 0 o ∧ cutB p s = s.extract (o + 1) s.size ∧ cutF p s = true) := by
      refine ⟨?_, ?_, hF⟩
      · unfold cutA; rw [if_pos hF, ho, Int.toNat_natCast]
      · unfold cutB; rw [if_pos hF, ho, Int.toNat_natCast]
    have ci := Any.stringslite_Index_one Tryd.lays219 s p w
    rw [ho] at ci
    have i1 : (0 : Int) ≤ (o : Int) := by omega
    have i2 : (o : Int) ≤ (s.size : Int) := by omega
    have i3 : (o : Int) + 1 ≤ (s.size : Int) := by omega
    have i4 : (0 : Int) ≤ (o : Int) + 1 := by omega
    have hw : IntKind.i64.wrap ((o : Int) + 1) = (o : Int) + 1 := by rw [IntKind.wrap_i64]; omega
    have ht : ((o : Int) + 1).toNat = o + 1 := by omega
    have dg : decide ((0 : Int) ≤ (o : Int)) = true := decide_eq_true i1
    clear h hF ho hge
    go_enter Tryd.func126, Tryd.ntmps126
    go_wp2_with fail
    refine ci.mono ?_
    clear ci
    rintro e w2 ⟨rfl, hw2⟩
    have hw2 := hw2.symm
    subst hw2
    go_upto_region 3 with fail
    go_quiet (fail)
    go_wp2
    exact bodyPost_ret (v := .tuple #[.string (s.extract 0 o), .string (s.extract (o + 1) s.size), .bool true]) (by simp [results, Tryd.results126, go_sem]) rfl ⟨by rw [HE.out.1, HE.out.2.1, HE.out.2.2], below_drewN (Below.refl _ _) _⟩
  · have hn : Lib.indexByte s.data.toList p = -1 := by omega
    have hF : cutF p s = false := decide_eq_false h
    have HE : Hid (cutA p s = s ∧ cutB p s = ⟨#[]⟩ ∧ cutF p s = false) := by
      refine ⟨?_, ?_, hF⟩
      · unfold cutA; rw [if_neg (by rw [hF]; decide)]
      · unfold cutB; rw [if_neg (by rw [hF]; decide)]
    have ci := Any.stringslite_Index_one Tryd.lays219 s p w
    rw [hn] at ci
    clear h hF hn hge
    go_enter Tryd.func126, Tryd.ntmps126
    go_wp2_with fail
    refine ci.mono ?_
    clear ci
    rintro e w2 ⟨rfl, hw2⟩
    have hw2 := hw2.symm
    subst hw2
    go_wp2
    exact bodyPost_ret (v := .tuple #[.string s, .string ⟨#[]⟩, .bool false]) (by simp [results, Tryd.results126, go_sem]) rfl ⟨by rw [HE.out.1, HE.out.2.1, HE.out.2.2], Below.refl _ _⟩

theorem cut_any (s : ByteArray) (p : UInt8) (w : World) (hs : s.size ≤ 1000000000000) :
    Calls Tryd.prog 117 #[.string s, .string ⟨#[p]⟩] w fun e w' => e = .returned (.tuple #[.string (cutA p s), .string (cutB p s), .bool (cutF p s)]) ∧ Below w.heap.size w w' := by
  have ci := liteCut_any s p w hs
  generalize cutA p s = a at ci ⊢
  generalize cutB p s = b at ci ⊢
  generalize cutF p s = f at ci ⊢
  go_enter Tryd.func117, Tryd.ntmps117
  go_wp2_with fail
  refine ci.mono ?_
  rintro e w2 ⟨rfl, hb⟩
  go_wp2
  exact bodyPost_ret (v := .tuple #[.string a, .string b, .bool f]) (by simp [results, Tryd.results117, go_sem]) rfl ⟨rfl, hb⟩

set_option maxHeartbeats 800000 in
theorem pairIn_any (s : ByteArray) (w : World) (hs : s.size ≤ 1000000000000) (hP : PowAt w) :
    Calls Tryd.prog 118 #[.string s] w fun e w' => e = .returned (.tuple #[.int .i64 (numOf (cutA 47 s)), .int .i64 (numOf (cutB 47 s))]) ∧ Below w.heap.size w w' := by
  have HP : Hid (PowAt w) := hP
  have ci := cut_any s 47 w hs
  clear hP
  generalize cutA 47 s = a at ci ⊢
  generalize cutB 47 s = b at ci ⊢
  go_enter Tryd.func118, Tryd.ntmps118
  go_wp2_with fail
  refine ci.mono ?_
  clear ci
  rintro e w2 ⟨rfl, hb⟩
  go_wp2_with fail
  refine (numberIn_any a _ (HP.out.below hb)).mono ?_
  rintro e w3 ⟨rfl, hb3⟩
  have hb3 := after hb hb3
  go_wp2_with fail
  refine (numberIn_any b _ (HP.out.below hb3)).mono ?_
  rintro e w4 ⟨rfl, hb4⟩
  go_wp2
  exact bodyPost_ret (v := .tuple #[.int .i64 (numOf a), .int .i64 (numOf b)]) (by simp [results, Tryd.results118, go_sem]) rfl ⟨rfl, after hb3 hb4⟩

end Go.Proofs.YtfbooamjddnagaaDoor
