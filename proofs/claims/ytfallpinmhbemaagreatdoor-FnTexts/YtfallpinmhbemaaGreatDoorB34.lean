/-
  OWN TEXT: ListI, WhereI, NameI, CarW, ClassI.
-/
import Derived.Deep.DeepCutAuto
import Derived.Test.YtfallpinmhbemaaGreatDoorB33
namespace Go.Proofs.YtfallpinmhbemaaGreatDoor
open Go.RowKit
open Go.Value (int)
open Go.IntKind (i64)
set_option maxHeartbeats 64000000
set_option maxRecDepth 100000
theorem Tryz.infoText:(Tryz.prog.info? 9).map (fun i=>(i.zero,i.size,i.bytes))=some (some (.string ⟨#[]⟩),1,16):=by kernel_rfl
theorem zfi (sep:ByteArray)(g n:Nat)(F:Nat->ByteArray)(w:World)(h:w.rowIs g 9 n (fun k=>.string (F k)))(hn:0<n)(hN:n<=1048576)(hl:(qD sep ((List.range n).map F)).size<=140737488355328) :
  Calls Tryz.prog 16 #[.slice (some ⟨g,0,none⟩) n n,.string sep] w fun e w'=>e=.returned (.string (qD sep ((List.range n).map F)))/\Below w.heap.size w w':=by
 have a:((List.range n).map F).length=n:=by simp
 have i:∀ (j:Nat) x,((List.range n).map F)[j]?=some x->w.cell? ⟨g,0+j,none⟩=some (.string x):=fun j x c=>by
  have f:j<n:=by
   rcases Nat.lt_or_ge j n with d|d
   ·exact d
   ·rw[List.getElem?_eq_none (by simpa using d)] at c;cases c
  rw[List.getElem?_map,List.getElem?_range f] at c
  cases c
  rw[Nat.zero_add];exact h.cell f
 have b:=Any.strings_Join Tryz.lays156 Tryz.extra156 g 0 n ((List.range n).map F) sep w i h.lt (by omega) (by omega) (by
   have e:(qD sep ((List.range n).map F)).size=(Lib.join (((List.range n).map F).map (·.data.toList)) sep.data.toList).length:=by show(Lib.join (((List.range n).map F).map (·.data.toList)) sep.data.toList).toArray.size=_;simp
   rw[← e];exact hl)
 rw[a] at b;exact b
theorem zho (x:Option Addr)(n cap:Nat)(f:Nat->Int)(w:World)(t:0<n)(hn:n<=3)(H:IntsAt w x n f)(m:∀ i,i<n->In (f i) 0 99999)(y:Ze w) :
  Calls Tryz.prog 40 #[.slice x n cap,.func (.func 39) #[] #[]] w fun e w'=>e=.returned (.string (ZB n f))/\Below w.heap.size w w':=by
 have E:=run_make_row' (P:=Tryz.prog) 46 9 (.string ⟨#[]⟩) 16 Tryz.underlying46 Tryz.infoText rfl .i64 .i64 n (by omega) (by omega)
 have d0:((n:Int) == 0)=false:=by rw[beq_eq_false_iff_ne];omega
 have A:=hI y;have v:=hI m;clear y m;go_enter Tryz.func40,Tryz.ntmps40;go_wp2;go_loopw [6,7,16] (fun _ _ i o=>∃ k:Nat,k<=n/\i=int i64 k/\o.rowIs w.heap.size 9 n (fun j=>if j<k then .string (qf (f j)) else .string ⟨#[]⟩)/\Below w.heap.size w o)
  (fun _ _ i _=>n - (intOf i).toNat)
 case atStart=>exact⟨0,Nat.zero_le _,rfl,(World.rowIs_made _ _ _ _).congr (by simp),bZ.alloc (Nat.le_refl _) _⟩
 case round =>
  obtain⟨k,hk,rfl,d,a⟩:=hrel
  by_cases hlt:k<n
  ·obtain⟨b,off,rfl,r⟩:=(H k (by omega))
   have C:o.cell? ⟨b,off+k,none⟩=some (int i64 (f k)):=(a.cell (World.block_lt_of_cell? w _ r)).trans r;have s:=v.out k hlt;unfold In at s;clear r;go_wp2_with fail;refine(Z3 (f k) (by omega) (by omega) _ (A.out.below a)).mono ?_
   rintro e w2 ⟨rfl,h⟩;have c:=row_below d h;have l:=zj a h;have F:=c.cell (i:=k) hlt;have hf:=c.frozen k;simp only[Nat.lt_irrefl,if_false] at F;clear d a h;go_wp2;go_roundw
   case rel=>exact⟨k+1,by omega,by go_num,(c.set k _).congr (fun j D=>fill_step (fun j=>Value.string (qf (f j))) _ k j),l.setCell (Nat.le_refl _) _⟩
   case measure=>simp[intOf];omega
  ·have g:o.rowIs w.heap.size 9 n (fun j=>.string (qf (f j))):=d.congr (fun j D=>by rw[if_pos (by omega)])
   have u:=zbU coT (by show 1<=1;omega) ((List.range n).map (fun i=>qf (f i))) (fun p G=>by
    obtain⟨i,m,rfl⟩:=List.mem_map.1 G;have B:=v.out i (by simpa using m)
    unfold In at B;have:=qh (n:=f i) (by omega) (by omega)
    omega)
   have z:=hI g;clear d g;go_wp2_with fail;refine(zfi coT w.heap.size n (fun i=>qf (f i)) _ z.out t (by omega) (by rw[List.length_map,List.length_range] at u;omega)).mono ?_
   rintro e w3 ⟨rfl,q⟩;go_wp2;go_ret;exact⟨rfl,zj a q⟩
theorem zbh (x:Int)(w:World) :
  Calls Tryz.prog 35 #[int i64 x] w fun e w'=>e=.returned (.bool (decide (In x 0 10000)))/\w'=w:=by
 go_enter Tryz.func35,Tryz.ntmps35;go_wp2_with (first|(go_at_call 31;refine(ql _ _ _ _).mono ?_;rintro e w' ⟨rfl,rfl⟩))
 go_ret;exact⟨rfl,rfl⟩
theorem qg (a b c:Bool)(w:World) :
  Calls Tryz.prog 32 #[.bool a,.bool b,.bool c] w fun e w'=>e=.returned (.bool (if a then b else c))/\w'=w:=by
 cases a with
 | true =>
  go_enter Tryz.func32,Tryz.ntmps32;go_wp2;go_ret;exact⟨rfl,rfl⟩
 | false =>
  go_enter Tryz.func32,Tryz.ntmps32;go_wp2;go_ret;exact⟨rfl,rfl⟩
theorem zdt (b:Int)(w:World):Calls Tryz.prog 81 #[.int .u8 b] w fun e w'=>e=.returned (.bool (decide (Qx b)))/\w'=w:=by
 obtain⟨c,d⟩:∃ c,c=decide (Qx b):=⟨_,rfl⟩;rw[← d];have a:=hI d;clear d
 by_cases h1:97<=b
 ·have i:decide (97<=b)=true:=by simpa using h1
  by_cases h2:b<=122
  ·have j:decide (b<=122)=true:=by simpa using h2
   go_enter Tryz.func81,Tryz.ntmps81;go_wp2;go_ret;exact⟨by rw[a.out,decide_eq_true (.inl ⟨h1,h2⟩)];rfl,rfl⟩
  ·have j:decide (b<=122)=false:=by simpa using h2
   have f:decide (65<=b)=true:=by simp;omega
   have g:decide (b<=90)=false:=by simp;omega
   go_enter Tryz.func81,Tryz.ntmps81;go_wp2;go_ret;exact⟨by rw[a.out,decide_eq_false (by rintro(h|h) <;> omega)];rfl,rfl⟩
 ·have i:decide (97<=b)=false:=by simpa using h1
  by_cases h3:65<=b
  ·have f:decide (65<=b)=true:=by simpa using h3
   by_cases h4:b<=90
   ·have g:decide (b<=90)=true:=by simpa using h4
    go_enter Tryz.func81,Tryz.ntmps81;go_wp2;go_ret;exact⟨by rw[a.out,decide_eq_true (.inr ⟨h3,h4⟩)];rfl,rfl⟩
   ·have g:decide (b<=90)=false:=by simpa using h4
    go_enter Tryz.func81,Tryz.ntmps81;go_wp2;go_ret;exact⟨by rw[a.out,decide_eq_false (by rintro(h|h) <;> omega)];rfl,rfl⟩
  ·have f:decide (65<=b)=false:=by simpa using h3
   go_enter Tryz.func81,Tryz.ntmps81;go_wp2;go_ret;exact⟨by rw[a.out,decide_eq_false (by rintro(h|h) <;> omega)];rfl,rfl⟩
theorem zip (s:ByteArray)(w:World)(hs:s.size<=1000000000000000) :
  Calls Tryz.prog 33 #[.string s] w fun e w'=>SaysIf (qK s) e/\w'=w:=by
 by_cases h0:In (s.size:Int) 1 12
 ·have b:=hI h0
  have g:decide (In (s.size:Int) 1 12)=true:=decide_eq_true h0;have m:s.size<=12:=by have:=h0.2;omega
  clear h0;go_enter Tryz.func33,Tryz.ntmps33;go_wp2_with (first|(go_at_call 31;refine sC (ql _ _ _ _) ?_))
  go_loop [3,10] (fun _ i=>∃ k:Nat,k<=s.size/\i=int i64 k/\∀ j,j<k->Qx (zbs s j)) (fun _ i=>s.size - (intOf i).toNat)
  case atStart=>exact⟨0,Nat.zero_le _,rfl,fun j l=>by omega⟩
  case round =>
   obtain⟨k,hk,rfl,a⟩:=hrel;have f:=hI a;clear a
   by_cases hlt:k<s.size
   ·by_cases hL:Qx (zbs s k)
    ·have d:decide (Qx (zbs s k))=true:=decide_eq_true hL
     have c:=hI hL;clear hL;rw[← zbG s k hlt] at d;go_wp2_with (first|(go_at_call 81;refine sC (zdt _ _) ?_))
     go_round
     case rel=>exact⟨k+1,by omega,by go_num,fun j l=>by
      by_cases e:j=k
      ·subst e;exact c.out
      ·exact f.out j (by omega)⟩
     case measure=>simp[intOf];omega
    ·have d:decide (Qx (zbs s k))=false:=decide_eq_false hL
     have c:=hI hL;clear hL;rw[← zbG s k hlt] at d;go_wp2_with (first|(go_at_call 81;refine sC (zdt _ _) ?_))
     go_ret;exact⟨zC (fun h=>c.out (h.2.2 k hlt)),rfl⟩
   ·obtain rfl:k=s.size:=by omega
    go_wp2;go_ret;exact⟨says_yes ⟨by have:=b.out.1;omega,by have:=b.out.2;omega,f.out⟩,rfl⟩
 ·have b:=hI h0
  have g:decide (In (s.size:Int) 1 12)=false:=decide_eq_false h0;clear h0;go_enter Tryz.func33,Tryz.ntmps33;go_wp2_with (first|(go_at_call 31;refine sC (ql _ _ _ _) ?_))
  go_ret;exact⟨zC (fun h=>b.out ⟨by have:=h.1;omega,by have:=h.2.1;omega⟩),rfl⟩
theorem Zz (s:ByteArray)(w:World)(a:s.size<=1000000000000000) :
  Calls Tryz.prog 33 #[.string s] w fun e w'=>e=.returned (.bool (decide (qK s)))/\w'=w:=by
 refine(zip s w a).mono ?_;rintro e w' ⟨⟨b',rfl,h⟩,rfl⟩;rw[bool_eq h (decide_eq_true_iff (p:=qK s))];exact⟨rfl,rfl⟩
theorem isCar_is (x y:Int)(w:World) :
  Calls Tryz.prog 83 #[int i64 x,int i64 y] w fun e w'=>e=.returned (.bool (decide (In x 1 2000/\In y 1 500)))/\w'=w:=by
 obtain⟨c,f⟩:∃ c,c=decide (In x 1 2000/\In y 1 500):=⟨_,rfl⟩;rw[← f];have d:=hI f;clear f
 by_cases h1:In x 1 2000
 ·have g:decide (In x 1 2000)=true:=decide_eq_true h1
  have a:=hI h1;clear h1
  by_cases h2:In y 1 500
  ·have i:decide (In y 1 500)=true:=decide_eq_true h2
   have b:=hI h2;clear h2;go_enter Tryz.func83,Tryz.ntmps83;go_wp2_with (first|(go_at_call 31;refine sC (ql _ _ _ _) ?_))
   go_ret;exact⟨by rw[d.out,decide_eq_true ⟨a.out,b.out⟩];rfl,rfl⟩
  ·have i:decide (In y 1 500)=false:=decide_eq_false h2
   have b:=hI h2;clear h2;go_enter Tryz.func83,Tryz.ntmps83;go_wp2_with (first|(go_at_call 31;refine sC (ql _ _ _ _) ?_))
   go_ret;exact⟨by rw[d.out,decide_eq_false (fun h=>b.out h.2)];rfl,rfl⟩
 ·have g:decide (In x 1 2000)=false:=decide_eq_false h1
  have a:=hI h1;clear h1;go_enter Tryz.func83,Tryz.ntmps83;go_wp2_with (first|(go_at_call 31;refine sC (ql _ _ _ _) ?_))
  go_ret;exact⟨by rw[d.out,decide_eq_false (fun h=>a.out h.1)];rfl,rfl⟩
theorem QR (x:Int)(w:World) :
  Calls Tryz.prog 97 #[int i64 x] w fun e w'=>e=.returned (.bool (decide (In x 1 3)))/\w'=w:=by
 go_enter Tryz.func97,Tryz.ntmps97;go_wp2_with (first|(go_at_call 31;refine sC (ql _ _ _ _) ?_))
 go_ret;exact⟨rfl,rfl⟩
theorem zbi (x:Int)(w:World) :
  Calls Tryz.prog 98 #[int i64 x] w fun e w'=>e=.returned (.bool (decide (In x 1 4)))/\w'=w:=by
 go_enter Tryz.func98,Tryz.ntmps98;go_wp2_with (first|(go_at_call 31;refine sC (ql _ _ _ _) ?_))
 go_ret;exact⟨rfl,rfl⟩
end Go.Proofs.YtfallpinmhbemaaGreatDoor
