/-
  OWN TEXT: NameI, OpI, ImplS1, ImplS2, ImplS3, ImplT, FitI.
-/
import Derived.Deep.DeepCutAuto
import Derived.Deep.RegionWith
import Derived.Test.YtmdnjgihooflfaaGreatDoorB23
namespace Go.Proofs.YtmdnjgihooflfaaGreatDoor
open Go.RowKit
open Go.Value (int)
open Go.IntKind (i64)
open Tryz
set_option maxHeartbeats 64000000
set_option maxRecDepth 100000
theorem zhe (b:Int)(w:World):Calls prog 266 #[.int .u8 b] w λe w'=>e=.returned (.bool (decide (zcj b)))/\w'=w:=by
 obtain⟨c,d⟩:∃ c,c=decide (zcj b):=⟨_,rfl⟩;rw[← d];have a:=hI d;clear d
 by_cases h1:97<=b
 ·have i:decide (97<=b)=true:=by simpa using h1
  by_cases h2:b<=122
  ·have j:decide (b<=122)=true:=by simpa using h2
   go_enter func266,ntmps266;go_wp2;go_ret;exact⟨by rw[a.out,Jd (.inl ⟨h1,h2⟩)];rfl,rfl⟩
  ·have j:decide (b<=122)=false:=by simpa using h2
   have f:decide (65<=b)=true:=by simp;omega
   have g:decide (b<=90)=false:=by simp;omega
   go_enter func266,ntmps266;go_wp2;go_ret;exact⟨by rw[a.out,Jc (by rintro(h|h) <;> omega)];rfl,rfl⟩
 ·have i:decide (97<=b)=false:=by simpa using h1
  by_cases h3:65<=b
  ·have f:decide (65<=b)=true:=by simpa using h3
   by_cases h4:b<=90
   ·have g:decide (b<=90)=true:=by simpa using h4
    go_enter func266,ntmps266;go_wp2;go_ret;exact⟨by rw[a.out,Jd (.inr ⟨h3,h4⟩)];rfl,rfl⟩
   ·have g:decide (b<=90)=false:=by simpa using h4
    go_enter func266,ntmps266;go_wp2;go_ret;exact⟨by rw[a.out,Jc (by rintro(h|h) <;> omega)];rfl,rfl⟩
  ·have f:decide (65<=b)=false:=by simpa using h3
   go_enter func266,ntmps266;go_wp2;go_ret;exact⟨by rw[a.out,Jc (by rintro(h|h) <;> omega)];rfl,rfl⟩
theorem znO (s:ByteArray)(w:World)(hs:s.size<=1000000000000000) :
  Calls prog 239 #[s] w λe w'=>qX (Zg s) e/\w'=w:=by
 by_cases h0:In (s.size:Int) 1 12
 ·have b:=hI h0
  have g:=Jd h0;have m:s.size<=12:=by have:=h0.2;omega
  clear h0;go_enter func239,ntmps239;go_wp2_with (first|(go_at_call 191;refine sC (zz _ _ _ _) ?_))
  go_loop [3,10] (λ_ i=>∃ k,k<=s.size/\i=int i64 k/\∀ j,j<k->zcj (zed s j)) (λ_ i=>s.size - (intOf i).toNat)
  case atStart=>exact⟨0,Jq _,rfl,λj l=>by omega⟩
  case round =>
   obtain⟨k,hk,rfl,a⟩:=hrel;have f:=hI a;clear a
   by_cases hlt:k<s.size
   ·by_cases hL:zcj (zed s k)
    ·have d:=Jd hL
     have c:=hI hL;clear hL;rw[← zgk s k hlt] at d;go_wp2_with (first|(go_at_call 266;refine sC (zhe _ _) ?_))
     go_round
     case rel=>exact⟨k+1,by omega,by go_num,λj l=>by
      by_cases e:j=k
      ·subst e;exact c
      ·exact f j (by omega)⟩
     case measure=>simp[intOf];omega
    ·have d:=Jc hL
     have c:=hI hL;clear hL;rw[← zgk s k hlt] at d;go_wp2_with (first|(go_at_call 266;refine sC (zhe _ _) ?_))
     go_ret;exact⟨zl (λh=>c (h.2.2 k hlt)),rfl⟩
   ·obtain rfl:k=s.size:=by omega
    go_wp2;go_ret;exact⟨zR ⟨by have:=b.1;omega,by have:=b.2;omega,f⟩,rfl⟩
 ·have b:=hI h0
  have g:=Jc h0;clear h0;go_enter func239,ntmps239;go_wp2_with (first|(go_at_call 191;refine sC (zz _ _ _ _) ?_))
  go_ret;exact⟨zl (λh=>b ⟨by have:=h.1;omega,by have:=h.2.1;omega⟩),rfl⟩
theorem Zi (s:ByteArray)(w:World)(a:s.size<=1000000000000000) :
  Calls prog 239 #[s] w λe w'=>e=.returned (.bool (decide (Zg s)))/\w'=w:=by
 refine(znO s w a).mono ?_;rintro e w' ⟨⟨b',rfl,h⟩,rfl⟩;rw[bool_eq h (decide_eq_true_iff)];exact⟨rfl,rfl⟩
section
open Go.RowKit
variable{k:Nat}
theorem party_eql (pe len hei cl:Int)(all:Bool)(be:Int)(w:World) :
  (binOp .eql 45 (.agg #[pe,len,hei,cl,all,be]) (.agg #[(),(),(),(),.bool false,()])).run prog w=.ok (.bool (PZ pe len hei cl all be)) w:=by
 unfold PZ zfl
 by_cases h1:pe=0
 ·subst h1
  by_cases h2:len=0
  ·subst h2
   by_cases h3:hei=0
   ·subst h3
    by_cases h4:cl=0
    ·subst h4
     cases all with
     | false =>
      by_cases h5:be=0
      ·subst h5
       go_simp
      ·go_simp
     | true=>go_simp
    ·go_simp
   ·go_simp
  ·go_simp
 ·go_simp
theorem zbQ (pe len hei cl:Int)(all:Bool)(be:Int)(w:World) :
  Calls prog 240 #[.agg #[pe,len,hei,cl,all,be]] w λe w'=>e=.returned (.bool (decide (qI ⟨pe,len,hei,cl,all,be⟩)))/\Below w.heap.size w w':=by
 refine(Qw pe len hei cl all be w).mono ?_;rintro e w' ⟨⟨b,rfl,a⟩,c⟩;refine⟨?_,c⟩
 congr 2
 rw[Bool.eq_iff_iff,a,decide_eq_true_eq]
theorem znP (s:ByteArray):(if zat k then decide (Zg s) else s.toList.isEmpty)=decide (ZS k s):=by
 by_cases c:k=2∨k=3∨k=7
 ·have e:zat k=true:=Jd c
  rw[e,Jf rfl];have c2:(k:Int)=2∨(k:Int)=3∨(k:Int)=7:=by omega
  rw[Bool.eq_iff_iff,decide_eq_true_eq,decide_eq_true_eq];unfold ZS;rw[Jf c2]
 ·have e:zat k=false:=Jc c
  rw[e,zap s (show ¬ ((k:Int)=2∨(k:Int)=3∨(k:Int)=7) by omega)]
  rfl
theorem name_form (n:Int):(if zaS k then decide (In n 1 30) else (n == 0))=decide (Qs k n):=by
 by_cases c:4<=k/\k<=8
 ·have e:zaS k=true:=Jd c
  have c2:In (k:Int) 4 8:=⟨by omega,by omega⟩
  rw[e,Jf rfl,Bool.eq_iff_iff,decide_eq_true_eq,decide_eq_true_eq];unfold Qs;rw[Jf c2]
 ·have e:zaS k=false:=Jc c
  rw[e,zds n (show ¬ In (k:Int) 4 8 by unfold In;omega)]
  rfl
theorem legs_form (n:Nat):(if decide (0<Z0 k) then decide (In (n:Int) 1 (Z0 k)) else ((n:Int) == 0))=decide (qi k n):=by
 by_cases c:k=1∨k=2∨k=3∨k=5
 ·have e:Z0 k=3:=Jf c
  have c2:zJ (k:Int):=by unfold zJ;omega
  rw[e,show decide _=true from rfl,Jf rfl,Bool.eq_iff_iff,decide_eq_true_eq,decide_eq_true_eq];unfold qi In;rw[Jf c2]
  omega
 ·have c2:¬ zJ (k:Int):=by unfold zJ;omega
  by_cases c9:k=9
  ·have e:Z0 k=1:=by unfold Z0;rw[Je c,Jf c9]
   rw[e,show decide _=true from rfl,Jf rfl,Bool.eq_iff_iff,decide_eq_true_eq,decide_eq_true_eq];unfold qi In;rw[Je c2,Jf (by omega)]
   omega
  ·have e:Z0 k=0:=by unfold Z0;rw[Je c,Je c9]
   rw[e,show decide _=false from rfl,Je (by decide),zey,Bool.eq_iff_iff,decide_eq_true_eq,decide_eq_true_eq]
   unfold qi;rw[Je c2,Je (by omega)]
theorem znQ {q:Bool}{p:Qh}(h:q=true↔qI p):(if QZ k then q else PZ p.pe p.len p.hei p.cl p.all p.be)=decide (qA k p):=by
 by_cases c:k=1∨k=2∨k=3∨k=5
 ·have e:QZ k=true:=Jd c
  rw[e,Jf rfl];exact(zcl (show zJ (k:Int) by unfold zJ;omega) h).symm
 ·have e:QZ k=false:=Jc c
  rw[e,Je (by decide)]
  exact zby (show ¬ zJ (k:Int) by unfold zJ;omega)
theorem znR (u:Int):(if zbm k then decide (In u 0 10000) else (u == 0))=decide (Qm k u):=by
 by_cases c:k=2
 ·have e:zbm k=true:=Jd c
  rw[e,Jf rfl,Bool.eq_iff_iff,decide_eq_true_eq,decide_eq_true_eq];unfold Qm In
  omega
 ·have e:zbm k=false:=Jc c
  rw[e,Je (by decide),Bool.eq_iff_iff,beq_iff_eq,decide_eq_true_eq]
  unfold Qm
  omega
theorem now_form (u:Int):(if zmg k then decide (In u 0 10000) else (u == 0))=decide (zbW k u):=by
 by_cases c:k=6∨k=8
 ·have e:zmg k=true:=Jd c
  rw[e,Jf rfl,Bool.eq_iff_iff,decide_eq_true_eq,decide_eq_true_eq];unfold zbW In
  omega
 ·have e:zmg k=false:=Jc c
  rw[e,Je (by decide),Bool.eq_iff_iff,beq_iff_eq,decide_eq_true_eq]
  unfold zbW
  omega
theorem zdX (cs:List Value)(x:OpD)(w:World)(M:x.own.size<=1000000000000000)(h:OpD.Is w cs x)(hF:Zm w) :
  Calls prog 194 #[.agg cs.toArray] w λe w'=>e=.returned (.bool (decide (zac x)))/\Below w.heap.size w w':=by
 obtain⟨D,E,rfl,_,_⟩:=h;obtain⟨V,hV⟩:∃ V,V=decide (zac x):=⟨_,rfl⟩;rw[← hV];have H:Hid (V=true↔zac x):=by show V=true↔zac x;rw[hV,decide_eq_true_eq]
 clear hV;have b:=hI hF;clear hF;have qP:=party_eql x.pe x.len x.hei x.cl x.all x.be;have d:Below w.heap.size w (w.alloc (.cells (x,D,E) 47)):=zk bZ _;have b0:=Jb w (.cells (x,D,E) 47);go_enter func194,ntmps194;go_wp2_with fail;generalize w.alloc (.cells (x,D,E) 47)=W at d b0 ⊢;obtain⟨t0,N⟩:∃ t,t=decide (In x.kind 1 9):=⟨_,rfl⟩;have L:Hid (t0=true↔In x.kind 1 9):=by show t0=true↔In x.kind 1 9;rw[N,decide_eq_true_eq]
 refine(zz _ _ _ _).mono ?_;rw[← N];clear N;rintro e v ⟨rfl,hv⟩;have hv:=hv.symm;subst hv
 cases t0 with
 | false =>
  have n:Hid (V=false):=Bool.eq_false_iff.2 (λh=>by have:=L.2 (H.1 h).1;cases this)
  go_wp2;go_ret;exact⟨by rw[n.out];rfl,d⟩
 | true =>
 have J:Hid (In x.kind 1 9):=L.1 rfl;obtain⟨k,hk⟩:∃ k:Nat,x.kind=(k:Int):=⟨x.kind.toNat,by have:=J.1;omega⟩
 have s:=hI hk;have b6:1<=k/\k<=9:=by have:=J.out;unfold In at this;omega
 clear L;have t0:W.cell? (9,k*7)=some (.bool (zat k)):=(d.cell (p:=(9,k*7)) b.lt).trans (b k (by omega)).1
 have t1:W.cell? (9,k*7+1)=some (.bool (zaS k)):=(d.cell (p:=(9,k*7+1)) b.lt).trans (b k (by omega)).2.1
 have t2:W.cell? (9,k*7+2)=some (Z0 k):=(d.cell (p:=(9,k*7+2)) b.lt).trans (b k (by omega)).2.2.1
 have t3:W.cell? (9,k*7+3)=some (.bool (QZ k)):=(d.cell (p:=(9,k*7+3)) b.lt).trans (b k (by omega)).2.2.2.1
 have t4:W.cell? (9,k*7+4)=some (.bool (zbm k)):=(d.cell (p:=(9,k*7+4)) b.lt).trans (b k (by omega)).2.2.2.2.1
 have t5:W.cell? (9,k*7+5)=some (.bool (zmg k)):=(d.cell (p:=(9,k*7+5)) b.lt).trans (b k (by omega)).2.2.2.2.2.1
 have t6:W.cell? (9,k*7+6)=some (.bool (zdy k)):=(d.cell (p:=(9,k*7+6)) b.lt).trans (b k (by omega)).2.2.2.2.2.2
 have y0:W.cell? (w.heap.size,0)=some (k:Int):=by rw[← hk];exact za b0 0 _ rfl
 have b4:(0:Int)<=(k:Int):=by omega
 have b5:(k:Int)<10:=by omega
 have c:=zd b0 (.cells #[.bool (zat k),.bool (zaS k),(Z0 k),.bool (QZ k),.bool (zbm k),.bool (zmg k),.bool (zdy k)] 263);have f:=Jb W (.cells #[.bool (zat k),.bool (zaS k),(Z0 k),.bool (QZ k),.bool (zbm k),.bool (zmg k),.bool (zdy k)] 263);have l:=zk d (.cells #[.bool (zat k),.bool (zaS k),(Z0 k),.bool (QZ k),.bool (zbm k),.bool (zmg k),.bool (zdy k)] 263);clear hk;go_upto_region 4 with fail;generalize hFx:W.heap.size=Q at f ⊢;generalize W.alloc (.cells #[.bool (zat k),.bool (zaS k),(Z0 k),.bool (QZ k),.bool (zbm k),.bool (zmg k),.bool (zdy k)] 263)=j at l c f ⊢;clear y0 t0 t1 t2 t3 t4 t5 t6 b4 b5 d b0 hFx;have B:=zM c;have R:=zM f;have z1:∀ g:zn j,g.val.cell? (w.heap.size,1)=some (.string x.own):=λg=>(g.bel.cell B).trans (za c 1 _ rfl)
 have z2:∀ g:zn j,g.val.cell? (w.heap.size,2)=some (int i64 x.name):=λg=>(g.bel.cell B).trans (za c 2 _ rfl)
 have z3:∀ g:zn j,g.val.cell? (w.heap.size,3)=some (D,x.lgn,E):=λg=>(g.bel.cell B).trans (za c 3 _ rfl)
 have z4:∀ g:zn j,g.val.cell? (w.heap.size,4)=some (int i64 x.pe):=λg=>(g.bel.cell B).trans (za c 4 _ rfl)
 have z5:∀ g:zn j,g.val.cell? (w.heap.size,5)=some (int i64 x.len):=λg=>(g.bel.cell B).trans (za c 5 _ rfl)
 have z6:∀ g:zn j,g.val.cell? (w.heap.size,6)=some (int i64 x.hei):=λg=>(g.bel.cell B).trans (za c 6 _ rfl)
 have z7:∀ g:zn j,g.val.cell? (w.heap.size,7)=some (int i64 x.cl):=λg=>(g.bel.cell B).trans (za c 7 _ rfl)
 have z8:∀ g:zn j,g.val.cell? (w.heap.size,8)=some (.bool x.all):=λg=>(g.bel.cell B).trans (za c 8 _ rfl)
 have z9:∀ g:zn j,g.val.cell? (w.heap.size,9)=some (int i64 x.be):=λg=>(g.bel.cell B).trans (za c 9 _ rfl)
 have b7:∀ g:zn j,g.val.cell? (w.heap.size,10)=some (int i64 x.unt):=λg=>(g.bel.cell B).trans (za c 10 _ rfl)
 have b8:∀ g:zn j,g.val.cell? (w.heap.size,11)=some (int i64 x.now):=λg=>(g.bel.cell B).trans (za c 11 _ rfl)
 have f0:∀ g:zn j,g.val.cell? (Q,0)=some (.bool (zat k)):=λg=>(g.bel.cell R).trans (za f 0 _ rfl)
 have f1:∀ g:zn j,g.val.cell? (Q,1)=some (.bool (zaS k)):=λg=>(g.bel.cell R).trans (za f 1 _ rfl)
 have f2:∀ g:zn j,g.val.cell? (Q,2)=some (Z0 k):=λg=>(g.bel.cell R).trans (za f 2 _ rfl)
 have f3:∀ g:zn j,g.val.cell? (Q,3)=some (.bool (QZ k)):=λg=>(g.bel.cell R).trans (za f 3 _ rfl)
 have f4:∀ g:zn j,g.val.cell? (Q,4)=some (.bool (zbm k)):=λg=>(g.bel.cell R).trans (za f 4 _ rfl)
 have f5:∀ g:zn j,g.val.cell? (Q,5)=some (.bool (zmg k)):=λg=>(g.bel.cell R).trans (za f 5 _ rfl)
 obtain⟨m,a1⟩:∃ t,decide (Zg x.own)=t:=⟨_,rfl⟩;have i:=hI a1;obtain⟨r,a2⟩:∃ t,decide (In x.name 1 30)=t:=⟨_,rfl⟩;have o:=hI a2;obtain⟨y,a3⟩:∃ t,decide (In (x.lgn:Int) 1 (Z0 k))=t:=⟨_,rfl⟩;have u:=hI a3;obtain⟨z,a4⟩:∃ t,decide (qI ⟨x.pe,x.len,x.hei,x.cl,x.all,x.be⟩)=t:=⟨_,rfl⟩;have A:=hI a4;obtain⟨F,a5⟩:∃ t,decide (In x.unt 0 10000)=t:=⟨_,rfl⟩;have C:=hI a5;obtain⟨O,a6⟩:∃ t,decide (In x.now 0 10000)=t:=⟨_,rfl⟩;have K:=hI a6;clear a1 a2 a3 a4 a5 a6 c f;have T:Hid ((if zat k then m else x.own.toList.isEmpty)=true↔ZS x.kind x.own):=by
  show(if zat k then m else x.own.toList.isEmpty)=true↔ZS x.kind x.own
  rw[← i.out,znP x.own,decide_eq_true_eq,s.out]
 have U:Hid ((if zaS k then r else (x.name == 0))=true↔Qs x.kind x.name):=by
  show(if zaS k then r else (x.name == 0))=true↔Qs x.kind x.name
  rw[← o.out,name_form x.name,decide_eq_true_eq,s.out]
 have X:Hid ((if decide (0<Z0 k) then y else ((x.lgn:Int) == 0))=true↔qi x.kind x.lgn):=by
  show(if decide (0<Z0 k) then y else ((x.lgn:Int) == 0))=true↔qi x.kind x.lgn
  rw[← u.out,legs_form x.lgn,decide_eq_true_eq,s.out]
 have Y:Hid ((if QZ k then z else (PZ x.pe x.len x.hei x.cl x.all x.be))=true↔qA x.kind x.p):=by
  show(if QZ k then z else (PZ x.pe x.len x.hei x.cl x.all x.be))=true↔qA x.kind x.p
  have h3:(if QZ k then z else PZ x.pe x.len x.hei x.cl x.all x.be)=decide (qA (k:Int) x.p):=znQ (p:=x.p) (show z=true↔qI x.p by rw[← A.out,decide_eq_true_eq];exact Iff.rfl)
  rw[h3,decide_eq_true_eq,s.out]
 have Z:Hid ((if zbm k then F else (x.unt == 0))=true↔Qm x.kind x.unt):=by
  show(if zbm k then F else (x.unt == 0))=true↔Qm x.kind x.unt
  rw[← C.out,znR x.unt,decide_eq_true_eq,s.out]
 have a0:Hid ((if zmg k then O else (x.now == 0))=true↔zbW x.kind x.now):=by
  show(if zmg k then O else (x.now == 0))=true↔zbW x.kind x.now
  rw[← K.out,now_form x.now,decide_eq_true_eq,s.out]
 by_cases p0:ZS x.kind x.own
 case neg =>
  have G:Hid ((if zat k then m else x.own.toList.isEmpty)=false):=Bool.eq_false_iff.2 (λh=>p0 (T.1 h))
  have n:Hid (V=false):=Bool.eq_false_iff.2 (λh=>p0 (H.1 h).2.1)
  clear p0;refine zh (by kernel_rfl) (by kernel_rfl) ?_
  simp only[List.append_eq,List.cons_append,List.nil_append]
  repeat(first|go_big_quiet_skip|(go_big_quiet_want;go_big_quiet_op;first|go_big_quiet_on|(apply Jg;refine⟨λg=>?_,?_⟩;(focus(go_at_call 239;with_reducible refine zf (v:=.bool m) (Jm (Zi x.own _ M) ?_);rintro e a ⟨rfl,rfl⟩;exact⟨by rw[i.out],bZ⟩));go_big_quiet_on)|(apply Jg;refine⟨λg=>?_,?_⟩;(focus(go_at_call 241;with_reducible refine zf (v:=.bool false) (Jm (zN (zat k) m x.own.toList.isEmpty _) ?_);rintro e a ⟨rfl,rfl⟩;exact⟨by rw[G.out],bZ⟩));go_big_quiet_on)))
  refine Jl ?_;rintro _ ⟨g,rfl⟩;go_wp2;go_ret;exact⟨by rw[n.out];rfl,ze l g.bel⟩
 have G:=hI (T.2 p0);have a7:=hI p0;clear p0
 by_cases p1:Qs x.kind x.name
 case neg =>
  have I:Hid ((if zaS k then r else (x.name == 0))=false):=Bool.eq_false_iff.2 (λh=>p1 (U.1 h))
  have n:Hid (V=false):=Bool.eq_false_iff.2 (λh=>p1 (H.1 h).2.2.1)
  clear p1;refine zh (by kernel_rfl) (by kernel_rfl) ?_
  simp only[List.append_eq,List.cons_append,List.nil_append]
  repeat(first|go_big_quiet_skip|(go_big_quiet_want;go_big_quiet_op;first|go_big_quiet_on|(apply Jg;refine⟨λg=>?_,?_⟩;(focus(go_at_call 239;with_reducible refine zf (v:=.bool m) (Jm (Zi x.own _ M) ?_);rintro e a ⟨rfl,rfl⟩;exact⟨by rw[i.out],bZ⟩));go_big_quiet_on)|(apply Jg;refine⟨λg=>?_,?_⟩;(focus(go_at_call 191;with_reducible refine zf (v:=.bool r) (Jm (zz x.name 1 30 _) ?_);rintro e a ⟨rfl,rfl⟩;exact⟨by rw[o.out],bZ⟩));go_big_quiet_on)|(apply Jg;refine⟨λg=>?_,?_⟩;(focus(go_at_call 241;with_reducible refine zf (v:=.bool true) (Jm (zN (zat k) m x.own.toList.isEmpty _) ?_);rintro e a ⟨rfl,rfl⟩;exact⟨by rw[G.out],bZ⟩));go_big_quiet_on)|(apply Jg;refine⟨λg=>?_,?_⟩;(focus(go_at_call 241;with_reducible refine zf (v:=.bool false) (Jm (zN (zaS k) r (x.name == 0) _) ?_);rintro e a ⟨rfl,rfl⟩;exact⟨by rw[I.out],bZ⟩));go_big_quiet_on)))
  refine Jl ?_;rintro _ ⟨g,rfl⟩;go_wp2;go_ret;exact⟨by rw[n.out];rfl,ze l g.bel⟩
 have I:=hI (U.2 p1);have a8:=hI p1;clear p1
 by_cases p2:qi x.kind x.lgn
 case neg =>
  have P:Hid ((if decide (0<Z0 k) then y else ((x.lgn:Int) == 0))=false):=Bool.eq_false_iff.2 (λh=>p2 (X.1 h))
  have n:Hid (V=false):=Bool.eq_false_iff.2 (λh=>p2 (H.1 h).2.2.2.1)
  clear p2;refine zh (by kernel_rfl) (by kernel_rfl) ?_
  simp only[List.append_eq,List.cons_append,List.nil_append]
  repeat(first|go_big_quiet_skip|(go_big_quiet_want;go_big_quiet_op;first|go_big_quiet_on|(apply Jg;refine⟨λg=>?_,?_⟩;(focus(go_at_call 239;with_reducible refine zf (v:=.bool m) (Jm (Zi x.own _ M) ?_);rintro e a ⟨rfl,rfl⟩;exact⟨by rw[i.out],bZ⟩));go_big_quiet_on)|(apply Jg;refine⟨λg=>?_,?_⟩;(focus(go_at_call 191;with_reducible refine zf (v:=.bool r) (Jm (zz x.name 1 30 _) ?_);rintro e a ⟨rfl,rfl⟩;exact⟨by rw[o.out],bZ⟩));go_big_quiet_on)|(apply Jg;refine⟨λg=>?_,?_⟩;(focus(go_at_call 191;with_reducible refine zf (v:=.bool y) (Jm (zz (x.lgn:Int) 1 (Z0 k) _) ?_);rintro e a ⟨rfl,rfl⟩;exact⟨by rw[u.out],bZ⟩));go_big_quiet_on)|(apply Jg;refine⟨λg=>?_,?_⟩;(focus(go_at_call 241;with_reducible refine zf (v:=.bool true) (Jm (zN (zat k) m x.own.toList.isEmpty _) ?_);rintro e a ⟨rfl,rfl⟩;exact⟨by rw[G.out],bZ⟩));go_big_quiet_on)|(apply Jg;refine⟨λg=>?_,?_⟩;(focus(go_at_call 241;with_reducible refine zf (v:=.bool true) (Jm (zN (zaS k) r (x.name == 0) _) ?_);rintro e a ⟨rfl,rfl⟩;exact⟨by rw[I.out],bZ⟩));go_big_quiet_on)|(apply Jg;refine⟨λg=>?_,?_⟩;(focus(go_at_call 241;with_reducible refine zf (v:=.bool false) (Jm (zN (decide (0<Z0 k)) y ((x.lgn:Int) == 0) _) ?_);rintro e a ⟨rfl,rfl⟩;exact⟨by rw[P.out],bZ⟩));go_big_quiet_on)))
  refine Jl ?_;rintro _ ⟨g,rfl⟩;go_wp2;go_ret;exact⟨by rw[n.out];rfl,ze l g.bel⟩
 have P:=hI (X.2 p2);have a9:=hI p2;clear p2
 by_cases p3:qA x.kind x.p
 case neg =>
  have S:Hid ((if QZ k then z else (PZ x.pe x.len x.hei x.cl x.all x.be))=false):=Bool.eq_false_iff.2 (λh=>p3 (Y.1 h))
  have n:Hid (V=false):=Bool.eq_false_iff.2 (λh=>p3 (H.1 h).2.2.2.2.1)
  clear p3;refine zh (by kernel_rfl) (by kernel_rfl) ?_
  simp only[List.append_eq,List.cons_append,List.nil_append]
  repeat(first|go_big_quiet_skip|(go_big_quiet_want;go_big_quiet_op;first|go_big_quiet_on|(apply Jg;refine⟨λg=>?_,?_⟩;(focus(go_at_call 239;with_reducible refine zf (v:=.bool m) (Jm (Zi x.own _ M) ?_);rintro e a ⟨rfl,rfl⟩;exact⟨by rw[i.out],bZ⟩));go_big_quiet_on)|(apply Jg;refine⟨λg=>?_,?_⟩;(focus(go_at_call 191;with_reducible refine zf (v:=.bool r) (Jm (zz x.name 1 30 _) ?_);rintro e a ⟨rfl,rfl⟩;exact⟨by rw[o.out],bZ⟩));go_big_quiet_on)|(apply Jg;refine⟨λg=>?_,?_⟩;(focus(go_at_call 191;with_reducible refine zf (v:=.bool y) (Jm (zz (x.lgn:Int) 1 (Z0 k) _) ?_);rintro e a ⟨rfl,rfl⟩;exact⟨by rw[u.out],bZ⟩));go_big_quiet_on)|(apply Jg;refine⟨λg=>?_,?_⟩;(focus(go_at_call 240;with_reducible refine zf (v:=.bool z) (Jm (zbQ x.pe x.len x.hei x.cl x.all x.be _) ?_);rintro e a ⟨rfl,q⟩;exact⟨by rw[A.out],q⟩));go_big_quiet_on)|(apply Jg;refine⟨λg=>?_,?_⟩;(focus(go_at_call 241;with_reducible refine zf (v:=.bool true) (Jm (zN (zat k) m x.own.toList.isEmpty _) ?_);rintro e a ⟨rfl,rfl⟩;exact⟨by rw[G.out],bZ⟩));go_big_quiet_on)|(apply Jg;refine⟨λg=>?_,?_⟩;(focus(go_at_call 241;with_reducible refine zf (v:=.bool true) (Jm (zN (zaS k) r (x.name == 0) _) ?_);rintro e a ⟨rfl,rfl⟩;exact⟨by rw[I.out],bZ⟩));go_big_quiet_on)|(apply Jg;refine⟨λg=>?_,?_⟩;(focus(go_at_call 241;with_reducible refine zf (v:=.bool true) (Jm (zN (decide (0<Z0 k)) y ((x.lgn:Int) == 0) _) ?_);rintro e a ⟨rfl,rfl⟩;exact⟨by rw[P.out],bZ⟩));go_big_quiet_on)|(apply Jg;refine⟨λg=>?_,?_⟩;(focus(go_at_call 241;with_reducible refine zf (v:=.bool false) (Jm (zN (QZ k) z (PZ x.pe x.len x.hei x.cl x.all x.be) _) ?_);rintro e a ⟨rfl,rfl⟩;exact⟨by rw[S.out],bZ⟩));go_big_quiet_on)))
  refine Jl ?_;rintro _ ⟨g,rfl⟩;go_wp2;go_ret;exact⟨by rw[n.out];rfl,ze l g.bel⟩
 have S:=hI (Y.2 p3);have b1:=hI p3;clear p3
 by_cases p4:Qm x.kind x.unt
 case neg =>
  have D4:Hid ((if zbm k then F else (x.unt == 0))=false):=Bool.eq_false_iff.2 (λh=>p4 (Z.1 h))
  have n:Hid (V=false):=Bool.eq_false_iff.2 (λh=>p4 (H.1 h).2.2.2.2.2.1)
  clear p4;refine zh (by kernel_rfl) (by kernel_rfl) ?_
  simp only[List.append_eq,List.cons_append,List.nil_append]
  repeat(first|go_big_quiet_skip|(go_big_quiet_want;go_big_quiet_op;first|go_big_quiet_on|(apply Jg;refine⟨λg=>?_,?_⟩;(focus(go_at_call 239;with_reducible refine zf (v:=.bool m) (Jm (Zi x.own _ M) ?_);rintro e a ⟨rfl,rfl⟩;exact⟨by rw[i.out],bZ⟩));go_big_quiet_on)|(apply Jg;refine⟨λg=>?_,?_⟩;(focus(go_at_call 191;with_reducible refine zf (v:=.bool r) (Jm (zz x.name 1 30 _) ?_);rintro e a ⟨rfl,rfl⟩;exact⟨by rw[o.out],bZ⟩));go_big_quiet_on)|(apply Jg;refine⟨λg=>?_,?_⟩;(focus(go_at_call 191;with_reducible refine zf (v:=.bool y) (Jm (zz (x.lgn:Int) 1 (Z0 k) _) ?_);rintro e a ⟨rfl,rfl⟩;exact⟨by rw[u.out],bZ⟩));go_big_quiet_on)|(apply Jg;refine⟨λg=>?_,?_⟩;(focus(go_at_call 240;with_reducible refine zf (v:=.bool z) (Jm (zbQ x.pe x.len x.hei x.cl x.all x.be _) ?_);rintro e a ⟨rfl,q⟩;exact⟨by rw[A.out],q⟩));go_big_quiet_on)|(apply Jg;refine⟨λg=>?_,?_⟩;(focus(go_at_call 242;with_reducible refine zf (v:=.bool F) (Jm (Qo x.unt _) ?_);rintro e a ⟨rfl,rfl⟩;exact⟨by rw[C.out],bZ⟩));go_big_quiet_on)|(apply Jg;refine⟨λg=>?_,?_⟩;(focus(go_at_call 241;with_reducible refine zf (v:=.bool true) (Jm (zN (zat k) m x.own.toList.isEmpty _) ?_);rintro e a ⟨rfl,rfl⟩;exact⟨by rw[G.out],bZ⟩));go_big_quiet_on)|(apply Jg;refine⟨λg=>?_,?_⟩;(focus(go_at_call 241;with_reducible refine zf (v:=.bool true) (Jm (zN (zaS k) r (x.name == 0) _) ?_);rintro e a ⟨rfl,rfl⟩;exact⟨by rw[I.out],bZ⟩));go_big_quiet_on)|(apply Jg;refine⟨λg=>?_,?_⟩;(focus(go_at_call 241;with_reducible refine zf (v:=.bool true) (Jm (zN (decide (0<Z0 k)) y ((x.lgn:Int) == 0) _) ?_);rintro e a ⟨rfl,rfl⟩;exact⟨by rw[P.out],bZ⟩));go_big_quiet_on)|(apply Jg;refine⟨λg=>?_,?_⟩;(focus(go_at_call 241;with_reducible refine zf (v:=.bool true) (Jm (zN (QZ k) z (PZ x.pe x.len x.hei x.cl x.all x.be) _) ?_);rintro e a ⟨rfl,rfl⟩;exact⟨by rw[S.out],bZ⟩));go_big_quiet_on)|(apply Jg;refine⟨λg=>?_,?_⟩;(focus(go_at_call 241;with_reducible refine zf (v:=.bool false) (Jm (zN (zbm k) F (x.unt == 0) _) ?_);rintro e a ⟨rfl,rfl⟩;exact⟨by rw[D4.out],bZ⟩));go_big_quiet_on)))
  refine Jl ?_;rintro _ ⟨g,rfl⟩;go_wp2;go_ret;exact⟨by rw[n.out];rfl,ze l g.bel⟩
 have D4:=hI (Z.2 p4);have b2:=hI p4;clear p4
 by_cases p5:zbW x.kind x.now
 case neg =>
  have D5:Hid ((if zmg k then O else (x.now == 0))=false):=Bool.eq_false_iff.2 (λh=>p5 (a0.1 h))
  have n:Hid (V=false):=Bool.eq_false_iff.2 (λh=>p5 (H.1 h).2.2.2.2.2.2)
  clear p5;refine zh (by kernel_rfl) (by kernel_rfl) ?_
  simp only[List.append_eq,List.cons_append,List.nil_append]
  repeat(first|go_big_quiet_skip|(go_big_quiet_want;go_big_quiet_op;first|go_big_quiet_on|(apply Jg;refine⟨λg=>?_,?_⟩;(focus(go_at_call 239;with_reducible refine zf (v:=.bool m) (Jm (Zi x.own _ M) ?_);rintro e a ⟨rfl,rfl⟩;exact⟨by rw[i.out],bZ⟩));go_big_quiet_on)|(apply Jg;refine⟨λg=>?_,?_⟩;(focus(go_at_call 191;with_reducible refine zf (v:=.bool r) (Jm (zz x.name 1 30 _) ?_);rintro e a ⟨rfl,rfl⟩;exact⟨by rw[o.out],bZ⟩));go_big_quiet_on)|(apply Jg;refine⟨λg=>?_,?_⟩;(focus(go_at_call 191;with_reducible refine zf (v:=.bool y) (Jm (zz (x.lgn:Int) 1 (Z0 k) _) ?_);rintro e a ⟨rfl,rfl⟩;exact⟨by rw[u.out],bZ⟩));go_big_quiet_on)|(apply Jg;refine⟨λg=>?_,?_⟩;(focus(go_at_call 240;with_reducible refine zf (v:=.bool z) (Jm (zbQ x.pe x.len x.hei x.cl x.all x.be _) ?_);rintro e a ⟨rfl,q⟩;exact⟨by rw[A.out],q⟩));go_big_quiet_on)|(apply Jg;refine⟨λg=>?_,?_⟩;(focus(go_at_call 242;with_reducible refine zf (v:=.bool F) (Jm (Qo x.unt _) ?_);rintro e a ⟨rfl,rfl⟩;exact⟨by rw[C.out],bZ⟩));go_big_quiet_on)|(apply Jg;refine⟨λg=>?_,?_⟩;(focus(go_at_call 242;with_reducible refine zf (v:=.bool O) (Jm (Qo x.now _) ?_);rintro e a ⟨rfl,rfl⟩;exact⟨by rw[K.out],bZ⟩));go_big_quiet_on)|(apply Jg;refine⟨λg=>?_,?_⟩;(focus(go_at_call 241;with_reducible refine zf (v:=.bool true) (Jm (zN (zat k) m x.own.toList.isEmpty _) ?_);rintro e a ⟨rfl,rfl⟩;exact⟨by rw[G.out],bZ⟩));go_big_quiet_on)|(apply Jg;refine⟨λg=>?_,?_⟩;(focus(go_at_call 241;with_reducible refine zf (v:=.bool true) (Jm (zN (zaS k) r (x.name == 0) _) ?_);rintro e a ⟨rfl,rfl⟩;exact⟨by rw[I.out],bZ⟩));go_big_quiet_on)|(apply Jg;refine⟨λg=>?_,?_⟩;(focus(go_at_call 241;with_reducible refine zf (v:=.bool true) (Jm (zN (decide (0<Z0 k)) y ((x.lgn:Int) == 0) _) ?_);rintro e a ⟨rfl,rfl⟩;exact⟨by rw[P.out],bZ⟩));go_big_quiet_on)|(apply Jg;refine⟨λg=>?_,?_⟩;(focus(go_at_call 241;with_reducible refine zf (v:=.bool true) (Jm (zN (QZ k) z (PZ x.pe x.len x.hei x.cl x.all x.be) _) ?_);rintro e a ⟨rfl,rfl⟩;exact⟨by rw[S.out],bZ⟩));go_big_quiet_on)|(apply Jg;refine⟨λg=>?_,?_⟩;(focus(go_at_call 241;with_reducible refine zf (v:=.bool true) (Jm (zN (zbm k) F (x.unt == 0) _) ?_);rintro e a ⟨rfl,rfl⟩;exact⟨by rw[D4.out],bZ⟩));go_big_quiet_on)|(apply Jg;refine⟨λg=>?_,?_⟩;(focus(go_at_call 241;with_reducible refine zf (v:=.bool false) (Jm (zN (zmg k) O (x.now == 0) _) ?_);rintro e a ⟨rfl,rfl⟩;exact⟨by rw[D5.out],bZ⟩));go_big_quiet_on)))
  refine Jl ?_;rintro _ ⟨g,rfl⟩;go_wp2;go_ret;exact⟨by rw[n.out];rfl,ze l g.bel⟩
 have D5:=hI (a0.2 p5);have b3:=hI p5;clear p5;have n:Hid (V=true):=H.2 ⟨J,a7,a8,a9,b1,b2,b3⟩;refine zh (by kernel_rfl) (by kernel_rfl) ?_
 simp only[List.append_eq,List.cons_append,List.nil_append]
 repeat(first|go_big_quiet_skip|(go_big_quiet_want;go_big_quiet_op;first|go_big_quiet_on|(apply Jg;refine⟨λg=>?_,?_⟩;(focus(go_at_call 239;with_reducible refine zf (v:=.bool m) (Jm (Zi x.own _ M) ?_);rintro e a ⟨rfl,rfl⟩;exact⟨by rw[i.out],bZ⟩));go_big_quiet_on)|(apply Jg;refine⟨λg=>?_,?_⟩;(focus(go_at_call 191;with_reducible refine zf (v:=.bool r) (Jm (zz x.name 1 30 _) ?_);rintro e a ⟨rfl,rfl⟩;exact⟨by rw[o.out],bZ⟩));go_big_quiet_on)|(apply Jg;refine⟨λg=>?_,?_⟩;(focus(go_at_call 191;with_reducible refine zf (v:=.bool y) (Jm (zz (x.lgn:Int) 1 (Z0 k) _) ?_);rintro e a ⟨rfl,rfl⟩;exact⟨by rw[u.out],bZ⟩));go_big_quiet_on)|(apply Jg;refine⟨λg=>?_,?_⟩;(focus(go_at_call 240;with_reducible refine zf (v:=.bool z) (Jm (zbQ x.pe x.len x.hei x.cl x.all x.be _) ?_);rintro e a ⟨rfl,q⟩;exact⟨by rw[A.out],q⟩));go_big_quiet_on)|(apply Jg;refine⟨λg=>?_,?_⟩;(focus(go_at_call 242;with_reducible refine zf (v:=.bool F) (Jm (Qo x.unt _) ?_);rintro e a ⟨rfl,rfl⟩;exact⟨by rw[C.out],bZ⟩));go_big_quiet_on)|(apply Jg;refine⟨λg=>?_,?_⟩;(focus(go_at_call 242;with_reducible refine zf (v:=.bool O) (Jm (Qo x.now _) ?_);rintro e a ⟨rfl,rfl⟩;exact⟨by rw[K.out],bZ⟩));go_big_quiet_on)|(apply Jg;refine⟨λg=>?_,?_⟩;(focus(go_at_call 241;with_reducible refine zf (v:=.bool true) (Jm (zN (zat k) m x.own.toList.isEmpty _) ?_);rintro e a ⟨rfl,rfl⟩;exact⟨by rw[G.out],bZ⟩));go_big_quiet_on)|(apply Jg;refine⟨λg=>?_,?_⟩;(focus(go_at_call 241;with_reducible refine zf (v:=.bool true) (Jm (zN (zaS k) r (x.name == 0) _) ?_);rintro e a ⟨rfl,rfl⟩;exact⟨by rw[I.out],bZ⟩));go_big_quiet_on)|(apply Jg;refine⟨λg=>?_,?_⟩;(focus(go_at_call 241;with_reducible refine zf (v:=.bool true) (Jm (zN (decide (0<Z0 k)) y ((x.lgn:Int) == 0) _) ?_);rintro e a ⟨rfl,rfl⟩;exact⟨by rw[P.out],bZ⟩));go_big_quiet_on)|(apply Jg;refine⟨λg=>?_,?_⟩;(focus(go_at_call 241;with_reducible refine zf (v:=.bool true) (Jm (zN (QZ k) z (PZ x.pe x.len x.hei x.cl x.all x.be) _) ?_);rintro e a ⟨rfl,rfl⟩;exact⟨by rw[S.out],bZ⟩));go_big_quiet_on)|(apply Jg;refine⟨λg=>?_,?_⟩;(focus(go_at_call 241;with_reducible refine zf (v:=.bool true) (Jm (zN (zbm k) F (x.unt == 0) _) ?_);rintro e a ⟨rfl,rfl⟩;exact⟨by rw[D4.out],bZ⟩));go_big_quiet_on)|(apply Jg;refine⟨λg=>?_,?_⟩;(focus(go_at_call 241;with_reducible refine zf (v:=.bool true) (Jm (zN (zmg k) O (x.now == 0) _) ?_);rintro e a ⟨rfl,rfl⟩;exact⟨by rw[D5.out],bZ⟩));go_big_quiet_on)))
 refine Jl ?_;rintro _ ⟨g,rfl⟩;go_wp2;go_ret;exact⟨by rw[n.out];rfl,ze l g.bel⟩
end
theorem Qu (x:Int)(w:World) :
  Calls prog 232 #[x] w λe w'=>e=.returned (.bool (decide (In x 1 99)))/\w'=w:=by
 go_enter func232,ntmps232;go_wp2_with (first|(go_at_call 191;refine(zz _ _ _ _).mono ?_;rintro e w' ⟨rfl,rfl⟩))
 go_ret;exact⟨rfl,rfl⟩
theorem ZO (a b:ByteArray)(w:World)(i:a.size<=1000000000000000)(k:b.size<=1000000000000000) :
  Calls prog 233 #[a,b] w λe w'=>e=.returned (.bool (decide (zda a b)))/\w'=w:=by
 obtain⟨c,j⟩:∃ c,c=decide (zda a b):=⟨_,rfl⟩;rw[← j];have g:=hI j;clear j
 by_cases n1:Zg a
 ·have l:=Jd n1
  by_cases n2:Zg b
  ·have m:=Jd n2
   by_cases n3:a=b
   ·subst n3
    have n:(a.toList == a.toList)=true:=zet.2 rfl;have f:Hid (¬ zda a a):=λh=>h.2.2 rfl
    clear n1 n2;go_enter func233,ntmps233;go_wp2_with (first|(go_at_call 239;refine sC (Zi _ _ i) ?_))
    go_ret;exact⟨by rw[g.out,Jc f.out];rfl,rfl⟩
   ·have n:=zga.2 n3
    have f:Hid (zda a b):=⟨n1,n2,n3⟩;clear n1 n2 n3;go_enter func233,ntmps233;go_wp2_with fail;refine(Zi _ _ i).mono ?_;rintro e w' ⟨rfl,d⟩;have d:=d.symm;subst d;go_wp2_with fail;refine(Zi _ _ k).mono ?_;rintro e w' ⟨rfl,d⟩;have d:=d.symm;subst d;go_wp2;go_ret;exact⟨by rw[g.out,Jd f.out];rfl,rfl⟩
  ·have m:=Jc n2
   have f:Hid (¬ zda a b):=λh=>n2 h.2.1
   clear n1 n2;go_enter func233,ntmps233;go_wp2_with fail;refine(Zi _ _ i).mono ?_;rintro e w' ⟨rfl,d⟩;have d:=d.symm;subst d;go_wp2_with fail;refine(Zi _ _ k).mono ?_;rintro e w' ⟨rfl,d⟩;have d:=d.symm;subst d;go_wp2;go_ret;exact⟨by rw[g.out,Jc f.out];rfl,rfl⟩
 ·have l:=Jc n1
  have f:Hid (¬ zda a b):=λh=>n1 h.1
  clear n1;go_enter func233,ntmps233;go_wp2_with fail;refine(Zi _ _ i).mono ?_;rintro e w' ⟨rfl,d⟩;have d:=d.symm;subst d;go_wp2;go_ret;exact⟨by rw[g.out,Jc f.out];rfl,rfl⟩
section
open Go.RowKit
end
theorem zaG (x d a mo:Int)(fr tt:ByteArray)(lo r:Option Addr)(n m c1 c2:Nat)(j k:zH)(w:World)(E:j.n=n)(F:k.n=m)(c:fr.size<=1000000000000000)(f:tt.size<=1000000000000000)(N:n<=1048576)(M:m<=1048576)(O:zG w lo j)(P:zG w r k) :
  Calls prog 177 #[.agg #[x,fr,tt,d,a,(lo,n,c1),(r,m,c2),mo]] w λe w'=>qX (Zf ⟨x,fr,tt,d,a,j,k,mo⟩) e/\Below w.heap.size w w':=by
 have b:Below _ w (w.alloc (.cells #[x,fr,tt,d,a,(lo,n,c1),(r,m,c2),mo] 140)):=zk bZ _;have B:=Jb w (.cells #[x,fr,tt,d,a,(lo,n,c1),(r,m,c2),mo] 140);have H:=hI E;have I:=hI F;clear E F
 by_cases g1:In x 1 99
 case neg =>
  have u:=by exact Jc g1
  have g:Hid (¬ Zf ⟨x,fr,tt,d,a,j,k,mo⟩):=λh=>g1 h.1
  clear g1;go_enter func177,ntmps177;go_wp2_with (first|(go_at_call 232;refine sC (Qu _ _) ?_)|(go_at_call 233;refine sC (ZO _ _ _ c f) ?_)|(go_at_call 191;refine sC (zz _ _ _ _) ?_))
  go_ret;exact⟨zl g,b⟩
 have u:=by exact Jd g1
 by_cases g2:zda fr tt
 case neg =>
  have v:=by exact Jc g2
  have g:Hid (¬ Zf ⟨x,fr,tt,d,a,j,k,mo⟩):=λh=>g2 ⟨h.2.1,h.2.2.1,h.2.2.2.1⟩
  clear g1 g2;go_enter func177,ntmps177;go_wp2_with (first|(go_at_call 232;refine sC (Qu _ _) ?_)|(go_at_call 233;refine sC (ZO _ _ _ c f) ?_)|(go_at_call 191;refine sC (zz _ _ _ _) ?_))
  go_ret;exact⟨zl g,b⟩
 have v:=by exact Jd g2
 by_cases g3:0<=d
 case neg =>
  have y:decide (0<=d)=false:=by simpa using g3
  have g:Hid (¬ Zf ⟨x,fr,tt,d,a,j,k,mo⟩):=λh=>g3 h.2.2.2.2.1
  clear g1 g2 g3;go_enter func177,ntmps177;go_wp2_with (first|(go_at_call 232;refine sC (Qu _ _) ?_)|(go_at_call 233;refine sC (ZO _ _ _ c f) ?_)|(go_at_call 191;refine sC (zz _ _ _ _) ?_))
  go_ret;exact⟨zl g,b⟩
 have y:decide (0<=d)=true:=by simpa using g3
 by_cases g4:d<a
 case neg =>
  have z:decide (d<a)=false:=by simpa using g4
  have g:Hid (¬ Zf ⟨x,fr,tt,d,a,j,k,mo⟩):=λh=>g4 h.2.2.2.2.2.1
  clear g1 g2 g3 g4;go_enter func177,ntmps177;go_wp2_with (first|(go_at_call 232;refine sC (Qu _ _) ?_)|(go_at_call 233;refine sC (ZO _ _ _ c f) ?_)|(go_at_call 191;refine sC (zz _ _ _ _) ?_))
  go_ret;exact⟨zl g,b⟩
 have z:decide (d<a)=true:=by simpa using g4
 by_cases g5:a<=10000
 case neg =>
  have A:decide (a<=10000)=false:=by simpa using g5
  have g:Hid (¬ Zf ⟨x,fr,tt,d,a,j,k,mo⟩):=λh=>g5 h.2.2.2.2.2.2.1
  clear g1 g2 g3 g4 g5;go_enter func177,ntmps177;go_wp2_with (first|(go_at_call 232;refine sC (Qu _ _) ?_)|(go_at_call 233;refine sC (ZO _ _ _ c f) ?_)|(go_at_call 191;refine sC (zz _ _ _ _) ?_))
  go_ret;exact⟨zl g,b⟩
 have A:decide (a<=10000)=true:=by simpa using g5
 have l:Hid (_/\_/\_/\_/\_):=⟨g1,g2,g3,g4,g5⟩;clear g1 g2 g3 g4 g5;go_enter func177,ntmps177;go_wp2_with (first|(go_at_call 232;refine sC (Qu _ _) ?_)|(go_at_call 233;refine sC (ZO _ _ _ c f) ?_)|(go_at_call 191;refine sC (zz _ _ _ _) ?_))
 refine(zeD lo n c1 j _ H N (O.below b)).mono ?_;rintro e w1 ⟨⟨J,rfl,i1⟩,o⟩;have s:=zb B o;have i:=ze b o;have C:=hI i1;clear i1 B b o
 cases J with
 | false =>
  go_wp2;go_ret;exact⟨zl (λh=>by have:=C.2 h.2.2.2.2.2.2.2.1;cases this),i⟩
 | true =>
  have Q:=za s 6 _ rfl;go_wp2_with fail;refine(zef r m c2 k _ I M (P.below i)).mono ?_;rintro e w2 ⟨⟨K,rfl,i2⟩,p⟩;have G:=zb s p;have q:=ze i p;have D:=hI i2;clear i2 s i p Q
  cases K with
  | false =>
   go_wp2;go_ret;exact⟨zl (λh=>by have:=D.2 h.2.2.2.2.2.2.2.2.1;cases this),q⟩
  | true =>
   have q7:=za G 7 _ rfl
   by_cases g8:In mo 0 500
   ·have L:=Jd g8
    have t:=hI g8;clear g8;go_wp2_with (first|(go_at_call 232;refine sC (Qu _ _) ?_)|(go_at_call 233;refine sC (ZO _ _ _ c f) ?_)|(go_at_call 191;refine sC (zz _ _ _ _) ?_))
    go_ret;exact⟨zR ⟨l.1,l.2.1.1,l.2.1.2.1,l.2.1.2.2,l.2.2.1,l.2.2.2.1,l.2.2.2.2,C.1 (by simp),D.1 (by simp),t⟩,q⟩
   ·have L:=Jc g8
    have t:=hI g8;clear g8;go_wp2_with (first|(go_at_call 232;refine sC (Qu _ _) ?_)|(go_at_call 233;refine sC (ZO _ _ _ c f) ?_)|(go_at_call 191;refine sC (zz _ _ _ _) ?_))
    go_ret;exact⟨zl (λh=>t h.2.2.2.2.2.2.2.2.2),q⟩
theorem zhf (E:Option Addr)(N c:Nat)(S:Nat->Zj)(w:World)(hN:N<=1048576)(Q:QL N S 1048576)(T:qB w E N S) :
  Calls prog 97 #[(E,N,c)] w λe w'=>qX (QJ N S) e/\Below w.heap.size w w':=by
 have X:=hI Q;clear Q
 by_cases h6:N<=6
 ·have K:decide (6<N)=false:=by simp;omega
  go_enter func97,ntmps97;go_wp2;go_loopw [3,4,10] (λ_ _ i wr=>∃ k,k<=N/\i=int i64 k/\(∀ j,j<k->Zf (S j)/\(0<j->(S (j - 1)).id<(S j).id))/\Below w.heap.size w wr) (λ_ _ i _=>N - (intOf i).toNat)
  case atStart=>exact⟨0,Jq _,rfl,λj hj=>by omega,bZ⟩
  case round =>
   obtain⟨k,hk,rfl,s,d⟩:=hrel;have H:=hI s;clear s K
   by_cases hlt:k<N
   ·have I:Hid (0<k->∀ b off,E=some ⟨b,off,none⟩->w.cell? ⟨b,off+(k - 1)*8,none⟩=some (int i64 (S (k - 1)).id)):=by
     intro h b off e;obtain⟨b',V,_,_,_,_,F,g,_⟩:=T (k - 1) (by omega)
     rw[e] at F;simp only[Option.some.injEq,Addr.mk.injEq,and_true] at F;obtain⟨rfl,rfl⟩:=F;exact g
    obtain⟨b,off,la,U,ca,J,rfl,L,h1,h2,h3,M,O,y,P,h8,h9,_,_⟩:=T k hlt;have C:=hI (λh=>I h b off rfl)
    clear I;have n:=Ja w _ h1;have Y:=(d.cell (p:=⟨b,off+_,_⟩) n).trans L;have c1:=(d.cell n).trans h1;have c2:=(d.cell (p:=⟨b,_+2,_⟩) n).trans h2;have c3:=(d.cell (p:=⟨b,_+3,_⟩) n).trans h3;have c4:=(d.cell (p:=⟨b,_+4,_⟩) n).trans M;have c5:=(d.cell (p:=⟨b,_+5,_⟩) n).trans O;have c6:=(d.cell (p:=⟨b,_+6,_⟩) n).trans y;have c7:=(d.cell (p:=⟨b,_+7,_⟩) n).trans P;obtain⟨s1,s2,z,A⟩:=X k hlt;have o:(S k).fr.size<=1000000000000000:=by omega
    have q:(S k).dst.size<=1000000000000000:=by omega
    clear s1 s2;have f:=zk d (.cells (S k,la,U,ca,J) 140);have a:=Jb wr (.cells (S k,la,U,ca,J) 140);clear L h1 h2 h3 M O y P;go_upto_region 6 with fail;generalize hW:wr.alloc _=W at f a ⊢;clear hW;have l:=zM a;have z0:∀ g:zn W,_:=λg=>(g.bel.cell l).trans (za a 0 _ rfl)
    have z1:∀ g:zn W,_:=λg=>(g.bel.cell l).trans (za a 1 _ rfl)
    have z2:∀ g:zn W,_:=λg=>(g.bel.cell l).trans (za a 2 _ rfl)
    have z3:∀ g:zn W,_:=λg=>(g.bel.cell l).trans (za a 3 _ rfl)
    have z4:∀ g:zn W,_:=λg=>(g.bel.cell l).trans (za a 4 _ rfl)
    have z5:∀ g:zn W,_:=λg=>(g.bel.cell l).trans (za a 5 _ rfl)
    have z6:∀ g:zn W,_:=λg=>(g.bel.cell l).trans (za a 6 _ rfl)
    have z7:∀ g:zn W,_:=λg=>(g.bel.cell l).trans (za a 7 _ rfl)
    have a0:b<W.heap.size:=Nat.lt_of_lt_of_le n f.size;clear Y c1 c2 c3 c4 c5 c6 c7 a;go_cut [10,32] (λi c wx=>i=int i64 k/\zll (Zf (S k)/\(0<k->(S (k - 1)).id<(S k).id)) c/\Below w.heap.size w wx)
    case first =>
     by_cases hg:Zf (S k)
     ·have r:=hI hg
      clear hg
      by_cases k0:k=0
      ·subst k0
       refine zh (by kernel_rfl) (by kernel_rfl) ?_
       repeat(first|go_big_quiet_skip|(go_big_quiet_want;go_big_quiet_op;first|go_big_quiet_on|(apply Jg;refine⟨λg=>?_,?_⟩;(focus(go_at_call 177;refine zf (v:=.bool true) ((zaG _ _ _ _ _ _ _ _ _ _ _ _ _ _ _ rfl rfl o q z A (h8.below (ze f g.bel)) (h9.below (ze f g.bel))).mono ?_);rintro e G ⟨⟨bb,rfl,x⟩,m⟩;obtain rfl:=x.2 r;exact⟨rfl,m⟩));go_big_quiet_on)))
       refine Jl ?_;rintro _ ⟨g,rfl⟩;go_wp2;go_meet;exact⟨rfl,Q5 ⟨r,λh=>by omega⟩,ze f g.bel⟩
      ·have d0:decide (0<k)=true:=by simp;omega
       have a1:((k:Int) - 1).toNat=k - 1:=by omega
       have a2:(k:Int) - 1<(N:Int):=by omega
       have a3:(0:Int)<=(k:Int) - 1:=by omega
       have a4:IntKind.i64.wrap ((k:Int) - 1)=(k:Int) - 1:=by rw[Jk];omega
       have y0:∀ g:zn W,_:=λg=>((ze f g.bel).cell (p:=⟨b,off+_,_⟩) n).trans (C (by omega))
       by_cases hle:(S k).id<=(S (k - 1)).id
       ·have Z:decide ((S k).id<=(S (k - 1)).id)=true:=by simpa using hle
        refine zh (by kernel_rfl) (by kernel_rfl) ?_
        repeat(first|go_big_quiet_skip|(go_big_quiet_want;go_big_quiet_op;first|go_big_quiet_on|(apply Jg;refine⟨λg=>?_,?_⟩;(focus(go_at_call 177;refine zf (v:=.bool true) ((zaG _ _ _ _ _ _ _ _ _ _ _ _ _ _ _ rfl rfl o q z A (h8.below (ze f g.bel)) (h9.below (ze f g.bel))).mono ?_);rintro e G ⟨⟨bb,rfl,x⟩,m⟩;obtain rfl:=x.2 r;exact⟨rfl,m⟩));go_big_quiet_on)))
        refine Jl ?_;rintro _ ⟨g,rfl⟩;go_wp2;go_meet;exact⟨rfl,QP (λh=>by have:=h.2 (by omega);omega),ze f g.bel⟩
       ·have Z:decide ((S k).id<=(S (k - 1)).id)=false:=by simpa using hle
        refine zh (by kernel_rfl) (by kernel_rfl) ?_
        repeat(first|go_big_quiet_skip|(go_big_quiet_want;go_big_quiet_op;first|go_big_quiet_on|(apply Jg;refine⟨λg=>?_,?_⟩;(focus(go_at_call 177;refine zf (v:=.bool true) ((zaG _ _ _ _ _ _ _ _ _ _ _ _ _ _ _ rfl rfl o q z A (h8.below (ze f g.bel)) (h9.below (ze f g.bel))).mono ?_);rintro e G ⟨⟨bb,rfl,x⟩,m⟩;obtain rfl:=x.2 r;exact⟨rfl,m⟩));go_big_quiet_on)))
        refine Jl ?_;rintro _ ⟨g,rfl⟩;go_wp2;go_meet;exact⟨rfl,Q5 ⟨r,λ_=>by omega⟩,ze f g.bel⟩
     ·have r:=hI hg
      clear hg;refine zh (by kernel_rfl) (by kernel_rfl) ?_
      repeat(first|go_big_quiet_skip|(go_big_quiet_want;go_big_quiet_op;first|go_big_quiet_on|(apply Jg;refine⟨λg=>?_,?_⟩;(focus(go_at_call 177;refine zf (v:=.bool false) ((zaG _ _ _ _ _ _ _ _ _ _ _ _ _ _ _ rfl rfl o q z A (h8.below (ze f g.bel)) (h9.below (ze f g.bel))).mono ?_);rintro e G ⟨⟨bb,rfl,x⟩,m⟩;obtain rfl:=Bool.eq_false_iff.2 (λe=>r (x.1 e));exact⟨rfl,m⟩));go_big_quiet_on)))
      refine Jl ?_;rintro _ ⟨g,rfl⟩;go_wp2;go_meet;exact⟨rfl,QP (λh=>r h.1),ze f g.bel⟩
    case rest =>
     obtain⟨rfl,⟨t,rfl,R⟩,u⟩:=hcut;have D:=hI R;clear R z0 z1 z2 z3 z4 z5 z6 z7
     cases t with
     | true =>
      go_wp2;go_ret;exact⟨zl (λh=>by have:=D.2 (h.2 k hlt);cases this),u⟩
     | false =>
      have B:=D.1 rfl;have B:=hI B;clear D;go_wp2;go_roundw
      case rel=>exact⟨k+1,by omega,by go_num,λj hj=>by
       by_cases e:j=k
       ·subst e;exact B
       ·exact H j (by omega),u⟩
      case measure=>simp[intOf];omega
   ·obtain rfl:k=N:=by omega
    go_wp2;go_ret;exact⟨zR ⟨h6,H⟩,d⟩
 ·have K:decide (6<N)=true:=by simp;omega
  go_enter func97,ntmps97;go_wp2;go_ret;exact⟨zl (λh=>h6 h.1),bZ⟩
def WayIs (N:Nat)(S:Nat->Zj)(G:Nat->Int)(w:World)(B k:Nat):Prop :=
 ∃ la lc ls pl t,w.heap[B]?=some (.cells #[.slice la k lc,.string pl,int i64 t] 329 (0,0))/\ls.length=k/\zT w la k (getI ls)/\(la=none->k=0/\lc=0) /\
  (0<k->pl=(S (zW S (G (k - 1)) N)).dst/\t=(S (zW S (G (k - 1)) N)).arr)
theorem Q0 (ao bo:Option Addr)(N n c c':Nat)(S:Nat->Zj)(G:Nat->Int)(w:World)(hN:N<=1048576)(hn:n<=1048576)(hs:QL N S 1048576)(hx:qB w ao N S)(hy:zT w bo n G) :
  Calls prog 195 #[.slice ao N c,.slice bo n c'] w λe w'=>qX (QJ N S/\zad N S n G) e/\Below w.heap.size w w':=by
 have HS:=hI hs;clear hs;go_enter func195,ntmps195;go_wp2_with fail;refine(zhf ao N c S _ hN HS.out hx).mono ?_;rintro e V ⟨⟨b1,rfl,D⟩,z⟩
 cases b1 with
 | false =>
  have HN:Hid (¬ _):=λh=>by have:=D.2 h;cases this
  clear D;go_wp2;go_ret;exact⟨zl (λh=>HN.out h.1),z⟩
 | true =>
  have HT:=hI (D.1 rfl);clear D
  by_cases g3:In (n:Int) 1 3
  case neg =>
   have d3:=Jc g3;have HN:Hid (¬ zad N S n G):=λh=>g3 ⟨by have:=h.1;omega,by have:=h.2.1;omega⟩
   clear g3;go_wp2_with (first|(go_at_call 191;refine sC (zz _ _ _ _) ?_))
   go_ret;exact⟨zl (λh=>HN.out h.2),z⟩
  have d3:=Jd g3;have H3:Hid (1<=n/\n<=3):=⟨by have:=g3.1;omega,by have:=g3.2;omega⟩
  have b3:=H3.out.2;clear g3;go_wp2_with (first|(go_at_call 191;refine sC (zz _ _ _ _) ?_))
  have Z:Below _ w (V.alloc (.cells #[.slice none 0 0,.string ⟨#[]⟩,int i64 0] 329)):=zk z _;have H:=Jb V (.cells #[.slice none 0 0,.string ⟨#[]⟩,int i64 0] 329);have hB:=z.size;go_loopw [6,7,8,9,21] (λ_ _ _ _ i wr=>∃ k,k<=n/\i=int i64 k/\(∀ j,j<k->zkh N S G j)/\WayIs N S G wr V.heap.size k/\Below w.heap.size w wr) (λ_ _ _ _ i _=>n - (intOf i).toNat)
  case atStart=>exact⟨0,Jq _,rfl,λj hj=>by omega,⟨_,0,[],_,0,H,rfl,λk hk=>by omega,λ_=>⟨rfl,rfl⟩,λh=>by omega⟩,Z⟩
  case round =>
   clear Z H d3 z;obtain⟨k,hk,rfl,F,J,q⟩:=hrel;have HA:=hI F;have HW:=hI J;clear F J
   by_cases hlt:k<n
   ·obtain⟨qb,a9,rfl,hq⟩:=hy k hlt
    have a8:=Ja w _ hq;have p0:=(q.cell a8).trans hq;clear hq;go_wp2_with fail;refine(zaF ao N c S _ _ hN (hx.below q)).mono ?_;rintro e s ⟨hr,C⟩;obtain⟨la,lc,ls,pl,t,f,a1,m,a7,I⟩:=HW.out;have f:=zb f C;have m:=m.below C;have d:=ze q C;have M:=hI a1;have W:=hI I;clear a1 I C q p0 HW
    rcases hr with⟨R,rfl⟩|⟨R,rfl⟩
    ·obtain⟨x,T⟩:∃ x,x=zW S (G k) N:=⟨_,rfl⟩
     rw[← T] at R ⊢;have X:=hI T;clear T;have x1:(x:Int)<(N:Int):=by omega
     have x0:(0:Int)<=(x:Int):=by omega
     obtain⟨L,a3,b6,b7,b4,b5,rfl,h0,h1,h2,h3,h4,h5,h6,h7,_,_,_,_⟩:=hx x R;have o:=Ja w _ h1;have b:L<s.heap.size:=Nat.lt_of_lt_of_le o d.size;have s0:=(d.cell (p:=⟨L,a3+_,_⟩) o).trans h0;have s1:=(d.cell o).trans h1;have s2:=(d.cell (p:=⟨L,_+2,_⟩) o).trans h2;have s3:=(d.cell (p:=⟨L,_+3,_⟩) o).trans h3;have s4:=(d.cell (p:=⟨L,_+4,_⟩) o).trans h4;have s5:=(d.cell (p:=⟨L,_+5,_⟩) o).trans h5;have s6:=(d.cell (p:=⟨L,_+6,_⟩) o).trans h6;have s7:=(d.cell (p:=⟨L,_+7,_⟩) o).trans h7;clear h0 h1 h2 h3 h4 h5 h6 h7;have P:=zM f;have g0:∀ g:zn s,g.val.cell? _=some (.slice la k lc):=λg=>(g.bel.cell P).trans (za f 0 _ rfl)
     have g1:∀ g:zn s,g.val.cell? _=some (.string pl):=λg=>(g.bel.cell P).trans (za f 1 _ rfl)
     have g2:∀ g:zn s,g.val.cell? _=some (.int _ t):=λg=>(g.bel.cell P).trans (za f 2 _ rfl)
     have r0:∀ g:zn s,_:=λg=>(g.bel.cell b).trans s0
     have r1:∀ g:zn s,_:=λg=>(g.bel.cell b).trans s1
     have r2:∀ g:zn s,_:=λg=>(g.bel.cell b).trans s2
     have r3:∀ g:zn s,_:=λg=>(g.bel.cell b).trans s3
     have r4:∀ g:zn s,_:=λg=>(g.bel.cell b).trans s4
     have r5:∀ g:zn s,_:=λg=>(g.bel.cell b).trans s5
     have r6:∀ g:zn s,_:=λg=>(g.bel.cell b).trans s6
     have r7:∀ g:zn s,_:=λg=>(g.bel.cell b).trans s7
     go_upto_region 8 with fail;go_cut [8,21,46] (λj i v wx=>j=int i64 x/\i=int i64 k/\zll (zkh N S G k) v/\Below s.heap.size s wx)
     case first =>
      by_cases k0:k=0
      ·subst k0
       refine zh (by kernel_rfl) (by kernel_rfl) ?_
       repeat(first|go_big_quiet_skip|(go_big_quiet_want;go_big_quiet_op;go_big_quiet_on))
       refine Jl ?_;rintro _ ⟨g,rfl⟩;go_wp2;go_meet;exact⟨rfl,rfl,Q5 ⟨by rw[← X.out];exact R,λh=>by omega⟩,g.bel⟩
      ·have d0:decide (0<k)=true:=by simp;omega
       by_cases u:zic pl t (S x).fr (S x).dep=true
       ·refine zh (by kernel_rfl) (by kernel_rfl) ?_
        repeat(first|go_big_quiet_skip|(go_big_quiet_want;go_big_quiet_op;first|go_big_quiet_on|(apply Jg;refine⟨λg=>?_,?_⟩;(focus(go_at_call 247;refine zf (v:=.bool true) ((zid _ _ _ _ _ _ _ _ _ _ _ _ _ _ _ _ _ _).mono ?_);rintro e w4 ⟨rfl,Q⟩;exact⟨by rw[u],Q⟩));go_big_quiet_on)))
        refine Jl ?_;rintro _ ⟨g,rfl⟩;go_wp2;go_meet;exact⟨rfl,rfl,Q5 ⟨by rw[← X.out];exact R,λh=>by
         have h1:=zcC.1 u;have h2:=W.out h;rw[← X.out];exact⟨by rw[← h2.1];exact h1.1.symm,by rw[← h2.2];exact h1.2⟩⟩,g.bel⟩
       ·have u:=Bool.eq_false_iff.2 u
        refine zh (by kernel_rfl) (by kernel_rfl) ?_
        repeat(first|go_big_quiet_skip|(go_big_quiet_want;go_big_quiet_op;first|go_big_quiet_on|(apply Jg;refine⟨λg=>?_,?_⟩;(focus(go_at_call 247;refine zf (v:=.bool false) ((zid _ _ _ _ _ _ _ _ _ _ _ _ _ _ _ _ _ _).mono ?_);rintro e w4 ⟨rfl,Q⟩;exact⟨by rw[u],Q⟩));go_big_quiet_on)))
        refine Jl ?_;rintro _ ⟨g,rfl⟩;go_wp2;go_meet;exact⟨rfl,rfl,QP (λh=>by
         have h1:=h.2 (by omega)
         have h2:=W.out (by omega)
         rw[← X.out] at h1;have h3:=zcC.2 (show(S x).fr=pl/\t<=_ from ⟨by rw[h2.1];exact h1.1.symm,by rw[h2.2];exact h1.2⟩)
         rw[u] at h3;cases h3),g.bel⟩
     case rest =>
      clear g0 g1 g2 r0 r1 r2 r3 r4 r5 r6 r7;obtain⟨rfl,rfl,⟨tb,rfl,ht⟩,l⟩:=hcut;have O:=hI ht;clear ht;obtain⟨w3,a6⟩:∃ y,y=wc:=⟨_,rfl⟩;subst a6;have A:=ze d l
      cases tb with
      | true =>
       clear s0 s1 s2 s3 s4 s5 s6 s7;go_wp2;go_ret;exact⟨zl (λh=>by have:=O.out.2 (h.2.2.2 k hlt);cases this),A⟩
      | false =>
       have HK:=hI (O.out.1 rfl);clear O;have r:=zb f l;have s0:=(l.cell b).trans s0;have s1:=(l.cell b).trans s1;have s2:=(l.cell b).trans s2;have s3:=(l.cell b).trans s3;have s4:=(l.cell b).trans s4;have s5:=(l.cell b).trans s5;have s6:=(l.cell b).trans s6;have s7:=(l.cell b).trans s7;obtain⟨b0,b1,b2⟩:=ce3 r;have E:=(m.below l).below (Ji _ w3).drew;have B:=hI r;clear f r m;go_upto_region 10 with fail;go_region_with (first|(go_at_call 248;refine Jm (with_any la k lc ls pl t _ _ _ _ _ _ _ _ _ _ _ _ _ M.out ?_ E a7) ?_;(focus omega);rintro e w5 ⟨Y,c5,rfl,a2,a0⟩;have U:=zb B.out a0;have o0:=za U 0 _ rfl;have o1:=za U 1 _ rfl;have o2:=za U 2 _ rfl;have f0:=zg U 0;have f1:=zg U 1;have f2:=zg U 2))
       all_goals
        have a4:Hid _:=a2;clear a2;go_wp2;go_roundw
        case rel =>
         refine⟨k+1,by omega,by go_num,λj hj=>?_,?_,?_⟩
         ·by_cases e:j=k
          ·subst e;exact HK.out
          ·exact HA.out j (by omega)
         ·have K:=ZW (ZW (ZW a4.out (a:=⟨V.heap.size,0,none⟩) (zM B.out) (.slice Y (k+1) c5)) (a:=⟨V.heap.size,1,none⟩) (zM B.out) (.string (S x).dst)) (a:=⟨V.heap.size,2,none⟩) (zM B.out) (int i64 (S x).arr)
          obtain⟨_,_,e5,_,_,a5⟩:=zp K;simp only[Value.slice.injEq,true_and] at e5;obtain⟨rfl,rfl⟩:=e5;exact⟨Y,c5,_,_,_,zm (zm (zm U 0 _) 1 _) 2 _,by rw[List.length_append,M.out];rfl,own_legs (by rw[List.length_append,M.out];rfl) K,λh=>absurd (a5 h).1 (by omega),λ_=>by
           rw[Nat.add_sub_cancel,← X.out];exact⟨rfl,rfl⟩⟩
         ·exact(((ze A.drew a0).setCell hB _).setCell hB _).setCell hB _
        case measure=>simp[intOf];omega
    ·have HF:=hI R
     clear R;go_upto_region 8 with fail;refine zh (by kernel_rfl) (by kernel_rfl) ?_
     repeat(first|go_big_quiet_skip|(go_big_quiet_want;go_big_quiet_op;go_big_quiet_on))
     refine Jl ?_;rintro _ ⟨g,rfl⟩;go_wp2;go_ret;exact⟨zl (λh=>by have:=(h.2.2.2 k hlt).1;have:=HF.out;omega),ze d g.bel⟩
   ·obtain rfl:k=n:=by omega
    go_wp2;go_ret;exact⟨zR ⟨HT.out,H3.out.1,H3.out.2,HA.out⟩,q⟩
end Go.Proofs.YtmdnjgihooflfaaGreatDoor
