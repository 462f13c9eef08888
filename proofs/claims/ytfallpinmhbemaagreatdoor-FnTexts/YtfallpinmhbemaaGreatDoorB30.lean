import Derived.Test.YtfallpinmhbemaaGreatDoorB26
namespace Go.Proofs.YtfallpinmhbemaaGreatDoor
open Go.RowKit
open Go.Value (int)
open Go.IntKind (i64)
set_option maxHeartbeats 64000000
set_option maxRecDepth 1000000
theorem party_eql (pe len hei cl:Int)(all:Bool)(be:Int)(w:World) :
  (binOp .eql 25 (.agg #[int i64 pe,int i64 len,int i64 hei,int i64 cl,.bool all,int i64 be]) (.agg #[int i64 0,int i64 0,int i64 0,int i64 0,.bool false,int i64 0])).run Tryz.prog w=.ok (.bool (PZ pe len hei cl all be)) w:=by
 unfold PZ zby
 by_cases h1:pe=0
 ·subst h1
  by_cases h2:len=0
  ·subst h2
   by_cases h3:hei=0
   ·subst h3
    by_cases h4:cl=0
    ·subst h4
     cases all with
     | false =>
      by_cases h5:be=0
      ·subst h5
       go_simp
      ·go_simp
     | true=>go_simp
    ·go_simp
   ·go_simp
  ·go_simp
 ·go_simp
theorem zad (pe len hei cl:Int)(all:Bool)(be:Int)(w:World) :
  Calls Tryz.prog 34 #[.agg #[int i64 pe,int i64 len,int i64 hei,int i64 cl,.bool all,int i64 be]] w fun e w'=>e=.returned (.bool (decide (qI ⟨pe,len,hei,cl,all,be⟩)))/\Below w.heap.size w w':=by
 refine(zfj pe len hei cl all be w).mono ?_;rintro e w' ⟨⟨b,rfl,a⟩,c⟩;refine⟨?_,c⟩
 congr 2
 rw[Bool.eq_iff_iff,a,decide_eq_true_eq]
theorem ziq {k:Nat}(s:ByteArray):(if qr k then decide (qK s) else s.toList.isEmpty)=decide (qO k s):=by
 by_cases c:k=2∨k=3∨k=7
 ·have e:qr k=true:=decide_eq_true c
  rw[e,if_pos rfl];have a:(k:Int)=2∨(k:Int)=3∨(k:Int)=7:=by omega
  rw[Bool.eq_iff_iff,decide_eq_true_eq,decide_eq_true_eq];unfold qO;rw[if_pos a]
 ·have e:qr k=false:=decide_eq_false c
  rw[e,Z8 s (show ¬ ((k:Int)=2∨(k:Int)=3∨(k:Int)=7) by omega)]
  rfl
theorem name_form {k:Nat}(n:Int):(if qM k then decide (In n 1 30) else (n == 0))=decide (Zp k n):=by
 by_cases c:4<=k/\k<=8
 ·have e:qM k=true:=decide_eq_true c
  have a:In (k:Int) 4 8:=⟨by omega,by omega⟩
  rw[e,if_pos rfl,Bool.eq_iff_iff,decide_eq_true_eq,decide_eq_true_eq];unfold Zp;rw[if_pos a]
 ·have e:qM k=false:=decide_eq_false c
  rw[e,zbe n (show ¬ In (k:Int) 4 8 by unfold In;omega)]
  rfl
theorem legs_form {k:Nat}(n:Nat):(if decide (0<qx k) then decide (In (n:Int) 1 (qx k)) else ((n:Int) == 0))=decide (qj k n):=by
 by_cases c:k=1∨k=2∨k=3∨k=5
 ·have e:qx k=3:=if_pos c
  have a:zR (k:Int):=by unfold zR;omega
  rw[e,show decide ((0:Int)<3)=true from rfl,if_pos rfl,Bool.eq_iff_iff,decide_eq_true_eq,decide_eq_true_eq];unfold qj In;rw[if_pos a]
  omega
 ·have a:¬ zR (k:Int):=by unfold zR;omega
  by_cases c9:k=9
  ·have e:qx k=1:=by unfold qx;rw[if_neg c,if_pos c9]
   rw[e,show decide ((0:Int)<1)=true from rfl,if_pos rfl,Bool.eq_iff_iff,decide_eq_true_eq,decide_eq_true_eq];unfold qj In;rw[if_neg a,if_pos (by omega)]
   omega
  ·have e:qx k=0:=by unfold qx;rw[if_neg c,if_neg c9]
   rw[e,show decide ((0:Int)<0)=false from rfl,if_neg (by decide),zbP,Bool.eq_iff_iff,decide_eq_true_eq,decide_eq_true_eq]
   unfold qj;rw[if_neg a,if_neg (by omega)]
theorem zir {k:Nat}{q:Bool}{p:Zf}(h:q=true↔qI p):(if qp k then q else PZ p.pe p.len p.hei p.cl p.all p.be)=decide (qt k p):=by
 by_cases c:k=1∨k=2∨k=3∨k=5
 ·have e:qp k=true:=decide_eq_true c
  rw[e,if_pos rfl];exact(zal (show zR (k:Int) by unfold zR;omega) h).symm
 ·have e:qp k=false:=decide_eq_false c
  rw[e,if_neg (by decide)]
  exact QV (show ¬ zR (k:Int) by unfold zR;omega)
theorem zis {k:Nat}(u:Int):(if qs k then decide (In u 0 10000) else (u == 0))=decide (ZD k u):=by
 by_cases c:k=2
 ·have e:qs k=true:=decide_eq_true c
  rw[e,if_pos rfl,Bool.eq_iff_iff,decide_eq_true_eq,decide_eq_true_eq];unfold ZD In
  omega
 ·have e:qs k=false:=decide_eq_false c
  rw[e,if_neg (by decide),Bool.eq_iff_iff,beq_iff_eq,decide_eq_true_eq]
  unfold ZD
  omega
theorem now_form {k:Nat}(u:Int):(if Qg k then decide (In u 0 10000) else (u == 0))=decide (zak k u):=by
 by_cases c:k=6∨k=8
 ·have e:Qg k=true:=decide_eq_true c
  rw[e,if_pos rfl,Bool.eq_iff_iff,decide_eq_true_eq,decide_eq_true_eq];unfold zak In
  omega
 ·have e:Qg k=false:=decide_eq_false c
  rw[e,if_neg (by decide),Bool.eq_iff_iff,beq_iff_eq,decide_eq_true_eq]
  unfold zak
  omega
theorem zit (cs:List Value)(x:OpD)(w:World)(M:x.own.size<=1000000000000000)(h:OpD.Is w cs x)(hF:Qb w) :
  Calls Tryz.prog 14 #[.agg cs.toArray] w fun e w'=>e=.returned (.bool (decide (Qz x)))/\Below w.heap.size w w':=by
 obtain⟨D,E,rfl,_,_⟩:=h;obtain⟨V,hV⟩:∃ V,V=decide (Qz x):=⟨_,rfl⟩;rw[← hV];have H:Hid (V=true↔Qz x):=by show V=true↔Qz x;rw[hV,decide_eq_true_eq]
 clear hV;have b:=hI hF;clear hF;have qP:=party_eql x.pe x.len x.hei x.cl x.all x.be;have d:Below w.heap.size w (w.alloc (.cells #[int i64 x.kind,.string x.own,int i64 x.name,.slice D x.lgn E,int i64 x.pe,int i64 x.len,int i64 x.hei,int i64 x.cl,.bool x.all,int i64 x.be,int i64 x.unt,int i64 x.now] 27)):=zr bZ _;have b0:=heap_alloc_new w (.cells #[int i64 x.kind,.string x.own,int i64 x.name,.slice D x.lgn E,int i64 x.pe,int i64 x.len,int i64 x.hei,int i64 x.cl,.bool x.all,int i64 x.be,int i64 x.unt,int i64 x.now] 27);go_enter Tryz.func14,Tryz.ntmps14;go_wp2_with fail;generalize w.alloc (.cells #[int i64 x.kind,.string x.own,int i64 x.name,.slice D x.lgn E,int i64 x.pe,int i64 x.len,int i64 x.hei,int i64 x.cl,.bool x.all,int i64 x.be,int i64 x.unt,int i64 x.now] 27)=W at d b0 ⊢;obtain⟨t0,N⟩:∃ t,t=decide (In x.kind 1 9):=⟨_,rfl⟩;have L:Hid (t0=true↔In x.kind 1 9):=by show t0=true↔In x.kind 1 9;rw[N,decide_eq_true_eq]
 refine(ql _ _ _ _).mono ?_;rw[← N];clear N;rintro e v ⟨rfl,hv⟩;have hv:=hv.symm;subst hv
 cases t0 with
 | false =>
  have n:Hid (V=false):=Bool.eq_false_iff.2 (fun h=>by have:=L.out.2 (H.out.1 h).1;cases this)
  go_wp2;go_ret;exact⟨by rw[n.out];rfl,d⟩
 | true =>
 have J:Hid (In x.kind 1 9):=L.out.1 rfl;obtain⟨k,hk⟩:∃ k:Nat,x.kind=(k:Int):=⟨x.kind.toNat,by have:=J.out.1;omega⟩
 have s:=hI hk;have c1:1<=k/\k<=9:=by have:=J.out;unfold In at this;omega
 clear L;have t0:W.cell? ⟨0,k*7,none⟩=some (.bool (qr k)):=(d.cell (p:=⟨0,k*7,none⟩) b.out.lt).trans (b.out k (by omega)).1
 have t1:W.cell? ⟨0,k*7+1,none⟩=some (.bool (qM k)):=(d.cell (p:=⟨0,k*7+1,none⟩) b.out.lt).trans (b.out k (by omega)).2.1
 have t2:W.cell? ⟨0,k*7+2,none⟩=some (int i64 (qx k)):=(d.cell (p:=⟨0,k*7+2,none⟩) b.out.lt).trans (b.out k (by omega)).2.2.1
 have t3:W.cell? ⟨0,k*7+3,none⟩=some (.bool (qp k)):=(d.cell (p:=⟨0,k*7+3,none⟩) b.out.lt).trans (b.out k (by omega)).2.2.2.1
 have t4:W.cell? ⟨0,k*7+4,none⟩=some (.bool (qs k)):=(d.cell (p:=⟨0,k*7+4,none⟩) b.out.lt).trans (b.out k (by omega)).2.2.2.2.1
 have t5:W.cell? ⟨0,k*7+5,none⟩=some (.bool (Qg k)):=(d.cell (p:=⟨0,k*7+5,none⟩) b.out.lt).trans (b.out k (by omega)).2.2.2.2.2.1
 have t6:W.cell? ⟨0,k*7+6,none⟩=some (.bool (Zc k)):=(d.cell (p:=⟨0,k*7+6,none⟩) b.out.lt).trans (b.out k (by omega)).2.2.2.2.2.2
 have y0:W.cell? ⟨w.heap.size,0,none⟩=some (int i64 (k:Int)):=by rw[← hk];exact za b0 0 _ rfl
 have b9:(0:Int)<=(k:Int):=by omega
 have c0:(k:Int)<10:=by omega
 have c:=ze b0 (.cells #[.bool (qr k),.bool (qM k),int i64 (qx k),.bool (qp k),.bool (qs k),.bool (Qg k),.bool (Zc k)] 69);have f:=heap_alloc_new W (.cells #[.bool (qr k),.bool (qM k),int i64 (qx k),.bool (qp k),.bool (qs k),.bool (Qg k),.bool (Zc k)] 69);have l:=zr d (.cells #[.bool (qr k),.bool (qM k),int i64 (qx k),.bool (qp k),.bool (qs k),.bool (Qg k),.bool (Zc k)] 69);clear hk;go_upto_region 4 with fail;generalize hFx:W.heap.size=Q at f ⊢;generalize W.alloc (.cells #[.bool (qr k),.bool (qM k),int i64 (qx k),.bool (qp k),.bool (qs k),.bool (Qg k),.bool (Zc k)] 69)=j at l c f ⊢;clear y0 t0 t1 t2 t3 t4 t5 t6 b9 c0 d b0 hFx;have B:=zZ c;have R:=zZ f;have z1:∀ g:qe j,g.val.cell? ⟨w.heap.size,1,none⟩=some (.string x.own):=fun g=>(g.bel.cell B).trans (za c 1 _ rfl)
 have z2:∀ g:qe j,g.val.cell? ⟨w.heap.size,2,none⟩=some (int i64 x.name):=fun g=>(g.bel.cell B).trans (za c 2 _ rfl)
 have z3:∀ g:qe j,g.val.cell? ⟨w.heap.size,3,none⟩=some (.slice D x.lgn E):=fun g=>(g.bel.cell B).trans (za c 3 _ rfl)
 have z4:∀ g:qe j,g.val.cell? ⟨w.heap.size,4,none⟩=some (int i64 x.pe):=fun g=>(g.bel.cell B).trans (za c 4 _ rfl)
 have z5:∀ g:qe j,g.val.cell? ⟨w.heap.size,5,none⟩=some (int i64 x.len):=fun g=>(g.bel.cell B).trans (za c 5 _ rfl)
 have z6:∀ g:qe j,g.val.cell? ⟨w.heap.size,6,none⟩=some (int i64 x.hei):=fun g=>(g.bel.cell B).trans (za c 6 _ rfl)
 have z7:∀ g:qe j,g.val.cell? ⟨w.heap.size,7,none⟩=some (int i64 x.cl):=fun g=>(g.bel.cell B).trans (za c 7 _ rfl)
 have z8:∀ g:qe j,g.val.cell? ⟨w.heap.size,8,none⟩=some (.bool x.all):=fun g=>(g.bel.cell B).trans (za c 8 _ rfl)
 have z9:∀ g:qe j,g.val.cell? ⟨w.heap.size,9,none⟩=some (int i64 x.be):=fun g=>(g.bel.cell B).trans (za c 9 _ rfl)
 have c2:∀ g:qe j,g.val.cell? ⟨w.heap.size,10,none⟩=some (int i64 x.unt):=fun g=>(g.bel.cell B).trans (za c 10 _ rfl)
 have c3:∀ g:qe j,g.val.cell? ⟨w.heap.size,11,none⟩=some (int i64 x.now):=fun g=>(g.bel.cell B).trans (za c 11 _ rfl)
 have f0:∀ g:qe j,g.val.cell? ⟨Q,0,none⟩=some (.bool (qr k)):=fun g=>(g.bel.cell R).trans (za f 0 _ rfl)
 have f1:∀ g:qe j,g.val.cell? ⟨Q,1,none⟩=some (.bool (qM k)):=fun g=>(g.bel.cell R).trans (za f 1 _ rfl)
 have f2:∀ g:qe j,g.val.cell? ⟨Q,2,none⟩=some (int i64 (qx k)):=fun g=>(g.bel.cell R).trans (za f 2 _ rfl)
 have f3:∀ g:qe j,g.val.cell? ⟨Q,3,none⟩=some (.bool (qp k)):=fun g=>(g.bel.cell R).trans (za f 3 _ rfl)
 have f4:∀ g:qe j,g.val.cell? ⟨Q,4,none⟩=some (.bool (qs k)):=fun g=>(g.bel.cell R).trans (za f 4 _ rfl)
 have f5:∀ g:qe j,g.val.cell? ⟨Q,5,none⟩=some (.bool (Qg k)):=fun g=>(g.bel.cell R).trans (za f 5 _ rfl)
 obtain⟨m,a1⟩:∃ t,decide (qK x.own)=t:=⟨_,rfl⟩;have i:=hI a1;obtain⟨r,a2⟩:∃ t,decide (In x.name 1 30)=t:=⟨_,rfl⟩;have o:=hI a2;obtain⟨y,a3⟩:∃ t,decide (In (x.lgn:Int) 1 (qx k))=t:=⟨_,rfl⟩;have u:=hI a3;obtain⟨z,a5⟩:∃ t,decide (qI ⟨x.pe,x.len,x.hei,x.cl,x.all,x.be⟩)=t:=⟨_,rfl⟩;have A:=hI a5;obtain⟨F,a6⟩:∃ t,decide (In x.unt 0 10000)=t:=⟨_,rfl⟩;have C:=hI a6;obtain⟨O,a7⟩:∃ t,decide (In x.now 0 10000)=t:=⟨_,rfl⟩;have K:=hI a7;clear a1 a2 a3 a5 a6 a7 c f;have T:Hid ((if qr k then m else x.own.toList.isEmpty)=true↔qO x.kind x.own):=by
  show(if qr k then m else x.own.toList.isEmpty)=true↔qO x.kind x.own
  rw[← i.out,ziq x.own,decide_eq_true_eq,s.out]
 have U:Hid ((if qM k then r else (x.name == 0))=true↔Zp x.kind x.name):=by
  show(if qM k then r else (x.name == 0))=true↔Zp x.kind x.name
  rw[← o.out,name_form x.name,decide_eq_true_eq,s.out]
 have X:Hid ((if decide (0<qx k) then y else ((x.lgn:Int) == 0))=true↔qj x.kind x.lgn):=by
  show(if decide (0<qx k) then y else ((x.lgn:Int) == 0))=true↔qj x.kind x.lgn
  rw[← u.out,legs_form x.lgn,decide_eq_true_eq,s.out]
 have Y:Hid ((if qp k then z else (PZ x.pe x.len x.hei x.cl x.all x.be))=true↔qt x.kind x.p):=by
  show(if qp k then z else (PZ x.pe x.len x.hei x.cl x.all x.be))=true↔qt x.kind x.p
  have h3:(if qp k then z else PZ x.pe x.len x.hei x.cl x.all x.be)=decide (qt (k:Int) x.p):=zir (p:=x.p) (show z=true↔qI x.p by rw[← A.out,decide_eq_true_eq];exact Iff.rfl)
  rw[h3,decide_eq_true_eq,s.out]
 have Z:Hid ((if qs k then F else (x.unt == 0))=true↔ZD x.kind x.unt):=by
  show(if qs k then F else (x.unt == 0))=true↔ZD x.kind x.unt
  rw[← C.out,zis x.unt,decide_eq_true_eq,s.out]
 have a0:Hid ((if Qg k then O else (x.now == 0))=true↔zak x.kind x.now):=by
  show(if Qg k then O else (x.now == 0))=true↔zak x.kind x.now
  rw[← K.out,now_form x.now,decide_eq_true_eq,s.out]
 by_cases p0:qO x.kind x.own
 case neg =>
  have G:Hid ((if qr k then m else x.own.toList.isEmpty)=false):=Bool.eq_false_iff.2 (fun h=>p0 (T.out.1 h))
  have n:Hid (V=false):=Bool.eq_false_iff.2 (fun h=>p0 (H.out.1 h).2.1)
  clear p0;refine zp (by kernel_rfl) (by kernel_rfl) ?_
  simp only[List.append_eq,List.cons_append,List.nil_append]
  repeat(first|go_big_quiet_skip|(go_big_quiet_want;go_big_quiet_op;first|go_big_quiet_on|(apply Exists.intro;refine⟨fun g=>?_,?_⟩;(focus(go_at_call 33;with_reducible refine zi (v:=.bool m) (Calls.mono (Zz x.own _ M) ?_);rintro e a ⟨rfl,rfl⟩;exact⟨by rw[i.out],bZ⟩));go_big_quiet_on)|(apply Exists.intro;refine⟨fun g=>?_,?_⟩;(focus(go_at_call 32;with_reducible refine zi (v:=.bool false) (Calls.mono (qg (qr k) m x.own.toList.isEmpty _) ?_);rintro e a ⟨rfl,rfl⟩;exact⟨by rw[G.out],bZ⟩));go_big_quiet_on)))
  refine wpQuiet_nil ?_;rintro _ ⟨g,rfl⟩;go_wp2;go_ret;exact⟨by rw[n.out];rfl,zj l g.bel⟩
 have G:=hI (T.out.2 p0);have a8:=hI p0;clear p0
 by_cases p1:Zp x.kind x.name
 case neg =>
  have I:Hid ((if qM k then r else (x.name == 0))=false):=Bool.eq_false_iff.2 (fun h=>p1 (U.out.1 h))
  have n:Hid (V=false):=Bool.eq_false_iff.2 (fun h=>p1 (H.out.1 h).2.2.1)
  clear p1;refine zp (by kernel_rfl) (by kernel_rfl) ?_
  simp only[List.append_eq,List.cons_append,List.nil_append]
  repeat(first|go_big_quiet_skip|(go_big_quiet_want;go_big_quiet_op;first|go_big_quiet_on|(apply Exists.intro;refine⟨fun g=>?_,?_⟩;(focus(go_at_call 33;with_reducible refine zi (v:=.bool m) (Calls.mono (Zz x.own _ M) ?_);rintro e a ⟨rfl,rfl⟩;exact⟨by rw[i.out],bZ⟩));go_big_quiet_on)|(apply Exists.intro;refine⟨fun g=>?_,?_⟩;(focus(go_at_call 31;with_reducible refine zi (v:=.bool r) (Calls.mono (ql x.name 1 30 _) ?_);rintro e a ⟨rfl,rfl⟩;exact⟨by rw[o.out],bZ⟩));go_big_quiet_on)|(apply Exists.intro;refine⟨fun g=>?_,?_⟩;(focus(go_at_call 32;with_reducible refine zi (v:=.bool true) (Calls.mono (qg (qr k) m x.own.toList.isEmpty _) ?_);rintro e a ⟨rfl,rfl⟩;exact⟨by rw[G.out],bZ⟩));go_big_quiet_on)|(apply Exists.intro;refine⟨fun g=>?_,?_⟩;(focus(go_at_call 32;with_reducible refine zi (v:=.bool false) (Calls.mono (qg (qM k) r (x.name == 0) _) ?_);rintro e a ⟨rfl,rfl⟩;exact⟨by rw[I.out],bZ⟩));go_big_quiet_on)))
  refine wpQuiet_nil ?_;rintro _ ⟨g,rfl⟩;go_wp2;go_ret;exact⟨by rw[n.out];rfl,zj l g.bel⟩
 have I:=hI (U.out.2 p1);have a9:=hI p1;clear p1
 by_cases p2:qj x.kind x.lgn
 case neg =>
  have P:Hid ((if decide (0<qx k) then y else ((x.lgn:Int) == 0))=false):=Bool.eq_false_iff.2 (fun h=>p2 (X.out.1 h))
  have n:Hid (V=false):=Bool.eq_false_iff.2 (fun h=>p2 (H.out.1 h).2.2.2.1)
  clear p2;refine zp (by kernel_rfl) (by kernel_rfl) ?_
  simp only[List.append_eq,List.cons_append,List.nil_append]
  repeat(first|go_big_quiet_skip|(go_big_quiet_want;go_big_quiet_op;first|go_big_quiet_on|(apply Exists.intro;refine⟨fun g=>?_,?_⟩;(focus(go_at_call 33;with_reducible refine zi (v:=.bool m) (Calls.mono (Zz x.own _ M) ?_);rintro e a ⟨rfl,rfl⟩;exact⟨by rw[i.out],bZ⟩));go_big_quiet_on)|(apply Exists.intro;refine⟨fun g=>?_,?_⟩;(focus(go_at_call 31;with_reducible refine zi (v:=.bool r) (Calls.mono (ql x.name 1 30 _) ?_);rintro e a ⟨rfl,rfl⟩;exact⟨by rw[o.out],bZ⟩));go_big_quiet_on)|(apply Exists.intro;refine⟨fun g=>?_,?_⟩;(focus(go_at_call 31;with_reducible refine zi (v:=.bool y) (Calls.mono (ql (x.lgn:Int) 1 (qx k) _) ?_);rintro e a ⟨rfl,rfl⟩;exact⟨by rw[u.out],bZ⟩));go_big_quiet_on)|(apply Exists.intro;refine⟨fun g=>?_,?_⟩;(focus(go_at_call 32;with_reducible refine zi (v:=.bool true) (Calls.mono (qg (qr k) m x.own.toList.isEmpty _) ?_);rintro e a ⟨rfl,rfl⟩;exact⟨by rw[G.out],bZ⟩));go_big_quiet_on)|(apply Exists.intro;refine⟨fun g=>?_,?_⟩;(focus(go_at_call 32;with_reducible refine zi (v:=.bool true) (Calls.mono (qg (qM k) r (x.name == 0) _) ?_);rintro e a ⟨rfl,rfl⟩;exact⟨by rw[I.out],bZ⟩));go_big_quiet_on)|(apply Exists.intro;refine⟨fun g=>?_,?_⟩;(focus(go_at_call 32;with_reducible refine zi (v:=.bool false) (Calls.mono (qg (decide (0<qx k)) y ((x.lgn:Int) == 0) _) ?_);rintro e a ⟨rfl,rfl⟩;exact⟨by rw[P.out],bZ⟩));go_big_quiet_on)))
  refine wpQuiet_nil ?_;rintro _ ⟨g,rfl⟩;go_wp2;go_ret;exact⟨by rw[n.out];rfl,zj l g.bel⟩
 have P:=hI (X.out.2 p2);have b5:=hI p2;clear p2
 by_cases p3:qt x.kind x.p
 case neg =>
  have S:Hid ((if qp k then z else (PZ x.pe x.len x.hei x.cl x.all x.be))=false):=Bool.eq_false_iff.2 (fun h=>p3 (Y.out.1 h))
  have n:Hid (V=false):=Bool.eq_false_iff.2 (fun h=>p3 (H.out.1 h).2.2.2.2.1)
  clear p3;refine zp (by kernel_rfl) (by kernel_rfl) ?_
  simp only[List.append_eq,List.cons_append,List.nil_append]
  repeat(first|go_big_quiet_skip|(go_big_quiet_want;go_big_quiet_op;first|go_big_quiet_on|(apply Exists.intro;refine⟨fun g=>?_,?_⟩;(focus(go_at_call 33;with_reducible refine zi (v:=.bool m) (Calls.mono (Zz x.own _ M) ?_);rintro e a ⟨rfl,rfl⟩;exact⟨by rw[i.out],bZ⟩));go_big_quiet_on)|(apply Exists.intro;refine⟨fun g=>?_,?_⟩;(focus(go_at_call 31;with_reducible refine zi (v:=.bool r) (Calls.mono (ql x.name 1 30 _) ?_);rintro e a ⟨rfl,rfl⟩;exact⟨by rw[o.out],bZ⟩));go_big_quiet_on)|(apply Exists.intro;refine⟨fun g=>?_,?_⟩;(focus(go_at_call 31;with_reducible refine zi (v:=.bool y) (Calls.mono (ql (x.lgn:Int) 1 (qx k) _) ?_);rintro e a ⟨rfl,rfl⟩;exact⟨by rw[u.out],bZ⟩));go_big_quiet_on)|(apply Exists.intro;refine⟨fun g=>?_,?_⟩;(focus(go_at_call 34;with_reducible refine zi (v:=.bool z) (Calls.mono (zad x.pe x.len x.hei x.cl x.all x.be _) ?_);rintro e a ⟨rfl,q⟩;exact⟨by rw[A.out],q⟩));go_big_quiet_on)|(apply Exists.intro;refine⟨fun g=>?_,?_⟩;(focus(go_at_call 32;with_reducible refine zi (v:=.bool true) (Calls.mono (qg (qr k) m x.own.toList.isEmpty _) ?_);rintro e a ⟨rfl,rfl⟩;exact⟨by rw[G.out],bZ⟩));go_big_quiet_on)|(apply Exists.intro;refine⟨fun g=>?_,?_⟩;(focus(go_at_call 32;with_reducible refine zi (v:=.bool true) (Calls.mono (qg (qM k) r (x.name == 0) _) ?_);rintro e a ⟨rfl,rfl⟩;exact⟨by rw[I.out],bZ⟩));go_big_quiet_on)|(apply Exists.intro;refine⟨fun g=>?_,?_⟩;(focus(go_at_call 32;with_reducible refine zi (v:=.bool true) (Calls.mono (qg (decide (0<qx k)) y ((x.lgn:Int) == 0) _) ?_);rintro e a ⟨rfl,rfl⟩;exact⟨by rw[P.out],bZ⟩));go_big_quiet_on)|(apply Exists.intro;refine⟨fun g=>?_,?_⟩;(focus(go_at_call 32;with_reducible refine zi (v:=.bool false) (Calls.mono (qg (qp k) z (PZ x.pe x.len x.hei x.cl x.all x.be) _) ?_);rintro e a ⟨rfl,rfl⟩;exact⟨by rw[S.out],bZ⟩));go_big_quiet_on)))
  refine wpQuiet_nil ?_;rintro _ ⟨g,rfl⟩;go_wp2;go_ret;exact⟨by rw[n.out];rfl,zj l g.bel⟩
 have S:=hI (Y.out.2 p3);have b6:=hI p3;clear p3
 by_cases p4:ZD x.kind x.unt
 case neg =>
  have D4:Hid ((if qs k then F else (x.unt == 0))=false):=Bool.eq_false_iff.2 (fun h=>p4 (Z.out.1 h))
  have n:Hid (V=false):=Bool.eq_false_iff.2 (fun h=>p4 (H.out.1 h).2.2.2.2.2.1)
  clear p4;refine zp (by kernel_rfl) (by kernel_rfl) ?_
  simp only[List.append_eq,List.cons_append,List.nil_append]
  repeat(first|go_big_quiet_skip|(go_big_quiet_want;go_big_quiet_op;first|go_big_quiet_on|(apply Exists.intro;refine⟨fun g=>?_,?_⟩;(focus(go_at_call 33;with_reducible refine zi (v:=.bool m) (Calls.mono (Zz x.own _ M) ?_);rintro e a ⟨rfl,rfl⟩;exact⟨by rw[i.out],bZ⟩));go_big_quiet_on)|(apply Exists.intro;refine⟨fun g=>?_,?_⟩;(focus(go_at_call 31;with_reducible refine zi (v:=.bool r) (Calls.mono (ql x.name 1 30 _) ?_);rintro e a ⟨rfl,rfl⟩;exact⟨by rw[o.out],bZ⟩));go_big_quiet_on)|(apply Exists.intro;refine⟨fun g=>?_,?_⟩;(focus(go_at_call 31;with_reducible refine zi (v:=.bool y) (Calls.mono (ql (x.lgn:Int) 1 (qx k) _) ?_);rintro e a ⟨rfl,rfl⟩;exact⟨by rw[u.out],bZ⟩));go_big_quiet_on)|(apply Exists.intro;refine⟨fun g=>?_,?_⟩;(focus(go_at_call 34;with_reducible refine zi (v:=.bool z) (Calls.mono (zad x.pe x.len x.hei x.cl x.all x.be _) ?_);rintro e a ⟨rfl,q⟩;exact⟨by rw[A.out],q⟩));go_big_quiet_on)|(apply Exists.intro;refine⟨fun g=>?_,?_⟩;(focus(go_at_call 35;with_reducible refine zi (v:=.bool F) (Calls.mono (zbh x.unt _) ?_);rintro e a ⟨rfl,rfl⟩;exact⟨by rw[C.out],bZ⟩));go_big_quiet_on)|(apply Exists.intro;refine⟨fun g=>?_,?_⟩;(focus(go_at_call 32;with_reducible refine zi (v:=.bool true) (Calls.mono (qg (qr k) m x.own.toList.isEmpty _) ?_);rintro e a ⟨rfl,rfl⟩;exact⟨by rw[G.out],bZ⟩));go_big_quiet_on)|(apply Exists.intro;refine⟨fun g=>?_,?_⟩;(focus(go_at_call 32;with_reducible refine zi (v:=.bool true) (Calls.mono (qg (qM k) r (x.name == 0) _) ?_);rintro e a ⟨rfl,rfl⟩;exact⟨by rw[I.out],bZ⟩));go_big_quiet_on)|(apply Exists.intro;refine⟨fun g=>?_,?_⟩;(focus(go_at_call 32;with_reducible refine zi (v:=.bool true) (Calls.mono (qg (decide (0<qx k)) y ((x.lgn:Int) == 0) _) ?_);rintro e a ⟨rfl,rfl⟩;exact⟨by rw[P.out],bZ⟩));go_big_quiet_on)|(apply Exists.intro;refine⟨fun g=>?_,?_⟩;(focus(go_at_call 32;with_reducible refine zi (v:=.bool true) (Calls.mono (qg (qp k) z (PZ x.pe x.len x.hei x.cl x.all x.be) _) ?_);rintro e a ⟨rfl,rfl⟩;exact⟨by rw[S.out],bZ⟩));go_big_quiet_on)|(apply Exists.intro;refine⟨fun g=>?_,?_⟩;(focus(go_at_call 32;with_reducible refine zi (v:=.bool false) (Calls.mono (qg (qs k) F (x.unt == 0) _) ?_);rintro e a ⟨rfl,rfl⟩;exact⟨by rw[D4.out],bZ⟩));go_big_quiet_on)))
  refine wpQuiet_nil ?_;rintro _ ⟨g,rfl⟩;go_wp2;go_ret;exact⟨by rw[n.out];rfl,zj l g.bel⟩
 have D4:=hI (Z.out.2 p4);have b7:=hI p4;clear p4
 by_cases p5:zak x.kind x.now
 case neg =>
  have D5:Hid ((if Qg k then O else (x.now == 0))=false):=Bool.eq_false_iff.2 (fun h=>p5 (a0.out.1 h))
  have n:Hid (V=false):=Bool.eq_false_iff.2 (fun h=>p5 (H.out.1 h).2.2.2.2.2.2)
  clear p5;refine zp (by kernel_rfl) (by kernel_rfl) ?_
  simp only[List.append_eq,List.cons_append,List.nil_append]
  repeat(first|go_big_quiet_skip|(go_big_quiet_want;go_big_quiet_op;first|go_big_quiet_on|(apply Exists.intro;refine⟨fun g=>?_,?_⟩;(focus(go_at_call 33;with_reducible refine zi (v:=.bool m) (Calls.mono (Zz x.own _ M) ?_);rintro e a ⟨rfl,rfl⟩;exact⟨by rw[i.out],bZ⟩));go_big_quiet_on)|(apply Exists.intro;refine⟨fun g=>?_,?_⟩;(focus(go_at_call 31;with_reducible refine zi (v:=.bool r) (Calls.mono (ql x.name 1 30 _) ?_);rintro e a ⟨rfl,rfl⟩;exact⟨by rw[o.out],bZ⟩));go_big_quiet_on)|(apply Exists.intro;refine⟨fun g=>?_,?_⟩;(focus(go_at_call 31;with_reducible refine zi (v:=.bool y) (Calls.mono (ql (x.lgn:Int) 1 (qx k) _) ?_);rintro e a ⟨rfl,rfl⟩;exact⟨by rw[u.out],bZ⟩));go_big_quiet_on)|(apply Exists.intro;refine⟨fun g=>?_,?_⟩;(focus(go_at_call 34;with_reducible refine zi (v:=.bool z) (Calls.mono (zad x.pe x.len x.hei x.cl x.all x.be _) ?_);rintro e a ⟨rfl,q⟩;exact⟨by rw[A.out],q⟩));go_big_quiet_on)|(apply Exists.intro;refine⟨fun g=>?_,?_⟩;(focus(go_at_call 35;with_reducible refine zi (v:=.bool F) (Calls.mono (zbh x.unt _) ?_);rintro e a ⟨rfl,rfl⟩;exact⟨by rw[C.out],bZ⟩));go_big_quiet_on)|(apply Exists.intro;refine⟨fun g=>?_,?_⟩;(focus(go_at_call 35;with_reducible refine zi (v:=.bool O) (Calls.mono (zbh x.now _) ?_);rintro e a ⟨rfl,rfl⟩;exact⟨by rw[K.out],bZ⟩));go_big_quiet_on)|(apply Exists.intro;refine⟨fun g=>?_,?_⟩;(focus(go_at_call 32;with_reducible refine zi (v:=.bool true) (Calls.mono (qg (qr k) m x.own.toList.isEmpty _) ?_);rintro e a ⟨rfl,rfl⟩;exact⟨by rw[G.out],bZ⟩));go_big_quiet_on)|(apply Exists.intro;refine⟨fun g=>?_,?_⟩;(focus(go_at_call 32;with_reducible refine zi (v:=.bool true) (Calls.mono (qg (qM k) r (x.name == 0) _) ?_);rintro e a ⟨rfl,rfl⟩;exact⟨by rw[I.out],bZ⟩));go_big_quiet_on)|(apply Exists.intro;refine⟨fun g=>?_,?_⟩;(focus(go_at_call 32;with_reducible refine zi (v:=.bool true) (Calls.mono (qg (decide (0<qx k)) y ((x.lgn:Int) == 0) _) ?_);rintro e a ⟨rfl,rfl⟩;exact⟨by rw[P.out],bZ⟩));go_big_quiet_on)|(apply Exists.intro;refine⟨fun g=>?_,?_⟩;(focus(go_at_call 32;with_reducible refine zi (v:=.bool true) (Calls.mono (qg (qp k) z (PZ x.pe x.len x.hei x.cl x.all x.be) _) ?_);rintro e a ⟨rfl,rfl⟩;exact⟨by rw[S.out],bZ⟩));go_big_quiet_on)|(apply Exists.intro;refine⟨fun g=>?_,?_⟩;(focus(go_at_call 32;with_reducible refine zi (v:=.bool true) (Calls.mono (qg (qs k) F (x.unt == 0) _) ?_);rintro e a ⟨rfl,rfl⟩;exact⟨by rw[D4.out],bZ⟩));go_big_quiet_on)|(apply Exists.intro;refine⟨fun g=>?_,?_⟩;(focus(go_at_call 32;with_reducible refine zi (v:=.bool false) (Calls.mono (qg (Qg k) O (x.now == 0) _) ?_);rintro e a ⟨rfl,rfl⟩;exact⟨by rw[D5.out],bZ⟩));go_big_quiet_on)))
  refine wpQuiet_nil ?_;rintro _ ⟨g,rfl⟩;go_wp2;go_ret;exact⟨by rw[n.out];rfl,zj l g.bel⟩
 have D5:=hI (a0.out.2 p5);have b8:=hI p5;clear p5;have n:Hid (V=true):=H.out.2 ⟨J.out,a8.out,a9.out,b5.out,b6.out,b7.out,b8.out⟩;refine zp (by kernel_rfl) (by kernel_rfl) ?_
 simp only[List.append_eq,List.cons_append,List.nil_append]
 repeat(first|go_big_quiet_skip|(go_big_quiet_want;go_big_quiet_op;first|go_big_quiet_on|(apply Exists.intro;refine⟨fun g=>?_,?_⟩;(focus(go_at_call 33;with_reducible refine zi (v:=.bool m) (Calls.mono (Zz x.own _ M) ?_);rintro e a ⟨rfl,rfl⟩;exact⟨by rw[i.out],bZ⟩));go_big_quiet_on)|(apply Exists.intro;refine⟨fun g=>?_,?_⟩;(focus(go_at_call 31;with_reducible refine zi (v:=.bool r) (Calls.mono (ql x.name 1 30 _) ?_);rintro e a ⟨rfl,rfl⟩;exact⟨by rw[o.out],bZ⟩));go_big_quiet_on)|(apply Exists.intro;refine⟨fun g=>?_,?_⟩;(focus(go_at_call 31;with_reducible refine zi (v:=.bool y) (Calls.mono (ql (x.lgn:Int) 1 (qx k) _) ?_);rintro e a ⟨rfl,rfl⟩;exact⟨by rw[u.out],bZ⟩));go_big_quiet_on)|(apply Exists.intro;refine⟨fun g=>?_,?_⟩;(focus(go_at_call 34;with_reducible refine zi (v:=.bool z) (Calls.mono (zad x.pe x.len x.hei x.cl x.all x.be _) ?_);rintro e a ⟨rfl,q⟩;exact⟨by rw[A.out],q⟩));go_big_quiet_on)|(apply Exists.intro;refine⟨fun g=>?_,?_⟩;(focus(go_at_call 35;with_reducible refine zi (v:=.bool F) (Calls.mono (zbh x.unt _) ?_);rintro e a ⟨rfl,rfl⟩;exact⟨by rw[C.out],bZ⟩));go_big_quiet_on)|(apply Exists.intro;refine⟨fun g=>?_,?_⟩;(focus(go_at_call 35;with_reducible refine zi (v:=.bool O) (Calls.mono (zbh x.now _) ?_);rintro e a ⟨rfl,rfl⟩;exact⟨by rw[K.out],bZ⟩));go_big_quiet_on)|(apply Exists.intro;refine⟨fun g=>?_,?_⟩;(focus(go_at_call 32;with_reducible refine zi (v:=.bool true) (Calls.mono (qg (qr k) m x.own.toList.isEmpty _) ?_);rintro e a ⟨rfl,rfl⟩;exact⟨by rw[G.out],bZ⟩));go_big_quiet_on)|(apply Exists.intro;refine⟨fun g=>?_,?_⟩;(focus(go_at_call 32;with_reducible refine zi (v:=.bool true) (Calls.mono (qg (qM k) r (x.name == 0) _) ?_);rintro e a ⟨rfl,rfl⟩;exact⟨by rw[I.out],bZ⟩));go_big_quiet_on)|(apply Exists.intro;refine⟨fun g=>?_,?_⟩;(focus(go_at_call 32;with_reducible refine zi (v:=.bool true) (Calls.mono (qg (decide (0<qx k)) y ((x.lgn:Int) == 0) _) ?_);rintro e a ⟨rfl,rfl⟩;exact⟨by rw[P.out],bZ⟩));go_big_quiet_on)|(apply Exists.intro;refine⟨fun g=>?_,?_⟩;(focus(go_at_call 32;with_reducible refine zi (v:=.bool true) (Calls.mono (qg (qp k) z (PZ x.pe x.len x.hei x.cl x.all x.be) _) ?_);rintro e a ⟨rfl,rfl⟩;exact⟨by rw[S.out],bZ⟩));go_big_quiet_on)|(apply Exists.intro;refine⟨fun g=>?_,?_⟩;(focus(go_at_call 32;with_reducible refine zi (v:=.bool true) (Calls.mono (qg (qs k) F (x.unt == 0) _) ?_);rintro e a ⟨rfl,rfl⟩;exact⟨by rw[D4.out],bZ⟩));go_big_quiet_on)|(apply Exists.intro;refine⟨fun g=>?_,?_⟩;(focus(go_at_call 32;with_reducible refine zi (v:=.bool true) (Calls.mono (qg (Qg k) O (x.now == 0) _) ?_);rintro e a ⟨rfl,rfl⟩;exact⟨by rw[D5.out],bZ⟩));go_big_quiet_on)))
 refine wpQuiet_nil ?_;rintro _ ⟨g,rfl⟩;go_wp2;go_ret;exact⟨by rw[n.out];rfl,zj l g.bel⟩
end Go.Proofs.YtfallpinmhbemaaGreatDoor
