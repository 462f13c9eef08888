/-
  OWN TEXT: WishI, PartyI, OpI, OpToldI, OpTextI.
-/
import Derived.Deep.DeepCutAuto
import Derived.Test.YtfallpinmhbemaaGreatDoorB34
namespace Go.Proofs.YtfallpinmhbemaaGreatDoor
open Go.RowKit
open Go.Value (int)
open Go.IntKind (i64)
set_option maxHeartbeats 64000000
set_option maxRecDepth 100000
theorem wish_is (cl:Int)(all:Bool)(be:Int)(w:World) :
  Calls Tryz.prog 85 #[int i64 cl,.bool all,int i64 be] w fun e w'=>e=.returned (.bool (decide (zbH cl all be)))/\w'=w:=by
 obtain⟨c,f⟩:∃ c,c=decide (zbH cl all be):=⟨_,rfl⟩;rw[← f];have a:=hI f;clear f
 by_cases h1:In cl 1 3
 ·have i:decide (In cl 1 3)=true:=decide_eq_true h1
  have b:=hI h1;clear h1
  cases all with
  | true =>
   by_cases h2:be=0
   ·subst h2
    go_enter Tryz.func85,Tryz.ntmps85;go_wp2_with (first|(go_at_call 97;refine sC (QR _ _) ?_))
    go_ret;exact⟨by rw[a.out,decide_eq_true ⟨b.out,.inl ⟨rfl,rfl⟩⟩];rfl,rfl⟩
   ·have g:(be == 0)=false:=by simpa using h2
    have d:=hI h2;clear h2;go_enter Tryz.func85,Tryz.ntmps85;go_wp2_with (first|(go_at_call 97;refine sC (QR _ _) ?_))
    go_ret;exact⟨by rw[a.out,decide_eq_false (fun h=>by rcases h.2 with h|h;exact d.out h.2;cases h.1)];rfl,rfl⟩
  | false =>
   by_cases h2:In be 1 4
   ·have g:decide (In be 1 4)=true:=decide_eq_true h2
    have d:=hI h2;clear h2;go_enter Tryz.func85,Tryz.ntmps85;go_wp2_with (first|(go_at_call 97;refine sC (QR _ _) ?_)|(go_at_call 98;refine sC (zbi _ _) ?_))
    go_ret;exact⟨by rw[a.out,decide_eq_true ⟨b.out,.inr ⟨rfl,d.out⟩⟩];rfl,rfl⟩
   ·have g:decide (In be 1 4)=false:=decide_eq_false h2
    have d:=hI h2;clear h2;go_enter Tryz.func85,Tryz.ntmps85;go_wp2_with (first|(go_at_call 97;refine sC (QR _ _) ?_)|(go_at_call 98;refine sC (zbi _ _) ?_))
    go_ret;exact⟨by rw[a.out,decide_eq_false (fun h=>by rcases h.2 with h|h;cases h.1;exact d.out h.2)];rfl,rfl⟩
 ·have i:decide (In cl 1 3)=false:=decide_eq_false h1
  have b:=hI h1;clear h1
  cases all with
  | true =>
   go_enter Tryz.func85,Tryz.ntmps85;go_wp2_with (first|(go_at_call 97;refine sC (QR _ _) ?_))
   go_ret;exact⟨by rw[a.out,decide_eq_false (fun h=>b.out h.1)];rfl,rfl⟩
  | false =>
   go_enter Tryz.func85,Tryz.ntmps85;go_wp2_with (first|(go_at_call 97;refine sC (QR _ _) ?_))
   go_ret;exact⟨by rw[a.out,decide_eq_false (fun h=>b.out h.1)];rfl,rfl⟩
theorem zfj (pe len hei cl:Int)(all:Bool)(be:Int)(w:World) :
  Calls Tryz.prog 34 #[.agg #[int i64 pe,int i64 len,int i64 hei,int i64 cl,.bool all,int i64 be]] w fun e w'=>SaysIf (qI ⟨pe,len,hei,cl,all,be⟩) e/\Below w.heap.size w w':=by
 obtain⟨A,l⟩:∃ c,c=decide (In pe 1 20):=⟨_,rfl⟩;obtain⟨B,m⟩:∃ c,c=decide (¬ (len=0/\hei=0)):=⟨_,rfl⟩;obtain⟨C,n⟩:∃ c,c=decide (In len 1 2000/\In hei 1 500):=⟨_,rfl⟩;obtain⟨v,o⟩:∃ c,c=decide (¬ (cl=0/\all=false/\be=0)):=⟨_,rfl⟩;obtain⟨x,p⟩:∃ c,c=decide (zbH cl all be):=⟨_,rfl⟩;have F:=hI l;have G:=hI m;have H:=hI n;have D:=hI o;have E:=hI p;have f:Hid (qI ⟨pe,len,hei,cl,all,be⟩↔A=true/\(B=false∨C=true)/\(v=false∨x=true)):=by
  show qI ⟨pe,len,hei,cl,all,be⟩↔A=true/\(B=false∨C=true)/\(v=false∨x=true)
  rw[l,m,n,o,p];unfold qI Q3;simp only[decide_eq_true_eq,decide_eq_false_iff_not,Classical.not_not]
 clear l m n o p;go_enter Tryz.func34,Tryz.ntmps34;go_wp2_with fail;have i:Below w.heap.size w (w.alloc (.cells #[int i64 pe,int i64 len,int i64 hei,int i64 cl,.bool all,int i64 be] 25)):=zr bZ _;have u:=heap_alloc_new w (.cells #[int i64 pe,int i64 len,int i64 hei,int i64 cl,.bool all,int i64 be] 25);generalize w.alloc (.cells #[int i64 pe,int i64 len,int i64 hei,int i64 cl,.bool all,int i64 be] 25)=W at i u ⊢;obtain⟨t,y,z,q,r,s⟩:=ce6 u;refine(ql _ _ _ _).mono ?_;rw[← F.out];rintro e w' ⟨rfl,a⟩;have a:=a.symm;subst a
 cases A with
 | false =>
  have j:Hid (¬ qI ⟨pe,len,hei,cl,all,be⟩):=fun h=>by have:=(f.out.1 h).1;cases this
  clear f;go_wp2;go_ret;exact⟨zC j.out,i⟩
 | true =>
  go_wp2_with fail;refine(zds pe len hei cl all be _).mono ?_;rw[← G.out];rintro e w1 ⟨rfl,k⟩;have b1:=zc u k;have g:=zj i k;clear t y z q r s i u k;have y:=za b1 1 _ rfl;have z:=za b1 2 _ rfl
  cases B with
  | false =>
   have t:=za b1 0 _ rfl;have q:=za b1 3 _ rfl;have r:=za b1 4 _ rfl;have s:=za b1 5 _ rfl;go_wp2_with fail;refine(zaK pe len hei cl all be _).mono ?_;rw[← D.out];rintro e I ⟨rfl,d⟩;have b2:=zc b1 d;have b:=zj g d;clear t y z q r s g b1 d;have q:=za b2 3 _ rfl;have r:=za b2 4 _ rfl;have s:=za b2 5 _ rfl
   cases v with
   | false =>
    go_wp2;go_ret;exact⟨says_yes (f.out.2 (by simp)),b⟩
   | true =>
    go_wp2_with fail;refine(wish_is _ _ _ _).mono ?_;rw[← E.out];rintro e w' ⟨rfl,a⟩;have a:=a.symm;subst a
    cases x with
    | true =>
     go_wp2;go_ret;exact⟨says_yes (f.out.2 (by simp)),b⟩
    | false =>
     have j:Hid (¬ qI ⟨pe,len,hei,cl,all,be⟩):=fun h=>by have h:=f.out.1 h;simp at h
     clear f;go_wp2;go_ret;exact⟨zC j.out,b⟩
  | true =>
   go_wp2_with fail;refine(isCar_is _ _ _).mono ?_;rw[← H.out];rintro e w' ⟨rfl,a⟩;have a:=a.symm;subst a
   cases C with
   | false =>
    have j:Hid (¬ qI ⟨pe,len,hei,cl,all,be⟩):=fun h=>by have h:=f.out.1 h;simp at h
    clear f;go_wp2;go_ret;exact⟨zC j.out,g⟩
   | true =>
    have t:=za b1 0 _ rfl;have q:=za b1 3 _ rfl;have r:=za b1 4 _ rfl;have s:=za b1 5 _ rfl;go_wp2_with fail;refine(zaK pe len hei cl all be _).mono ?_;rw[← D.out];rintro e I ⟨rfl,d⟩;have b2:=zc b1 d;have b:=zj g d;clear t y z q r s g b1 d;have q:=za b2 3 _ rfl;have r:=za b2 4 _ rfl;have s:=za b2 5 _ rfl
    cases v with
    | false =>
     go_wp2;go_ret;exact⟨says_yes (f.out.2 (by simp)),b⟩
    | true =>
     go_wp2_with fail;refine(wish_is _ _ _ _).mono ?_;rw[← E.out];rintro e w' ⟨rfl,a⟩;have a:=a.symm;subst a
     cases x with
     | true =>
      go_wp2;go_ret;exact⟨says_yes (f.out.2 (by simp)),b⟩
     | false =>
      have j:Hid (¬ qI ⟨pe,len,hei,cl,all,be⟩):=fun h=>by have h:=f.out.1 h;simp at h
      clear f;go_wp2;go_ret;exact⟨zC j.out,b⟩
theorem party_eql (pe len hei cl:Int)(all:Bool)(be:Int)(w:World) :
  (binOp .eql 25 (.agg #[int i64 pe,int i64 len,int i64 hei,int i64 cl,.bool all,int i64 be]) (.agg #[int i64 0,int i64 0,int i64 0,int i64 0,.bool false,int i64 0])).run Tryz.prog w=.ok (.bool (PZ pe len hei cl all be)) w:=by
 unfold PZ zby
 by_cases h1:pe=0
 ·subst h1
  by_cases h2:len=0
  ·subst h2
   by_cases h3:hei=0
   ·subst h3
    by_cases h4:cl=0
    ·subst h4
     cases all with
     | false =>
      by_cases h5:be=0
      ·subst h5
       go_simp
      ·go_simp
     | true=>go_simp
    ·go_simp
   ·go_simp
  ·go_simp
 ·go_simp
theorem zad (pe len hei cl:Int)(all:Bool)(be:Int)(w:World) :
  Calls Tryz.prog 34 #[.agg #[int i64 pe,int i64 len,int i64 hei,int i64 cl,.bool all,int i64 be]] w fun e w'=>e=.returned (.bool (decide (qI ⟨pe,len,hei,cl,all,be⟩)))/\Below w.heap.size w w':=by
 refine(zfj pe len hei cl all be w).mono ?_;rintro e w' ⟨⟨b,rfl,a⟩,c⟩;refine⟨?_,c⟩
 congr 2
 rw[Bool.eq_iff_iff,a,decide_eq_true_eq]
theorem ziq {k:Nat}(s:ByteArray):(if qr k then decide (qK s) else s.toList.isEmpty)=decide (qO k s):=by
 by_cases c:k=2∨k=3∨k=7
 ·have e:qr k=true:=decide_eq_true c
  rw[e,if_pos rfl];have a:(k:Int)=2∨(k:Int)=3∨(k:Int)=7:=by omega
  rw[Bool.eq_iff_iff,decide_eq_true_eq,decide_eq_true_eq];unfold qO;rw[if_pos a]
 ·have e:qr k=false:=decide_eq_false c
  rw[e,Z8 s (show ¬ ((k:Int)=2∨(k:Int)=3∨(k:Int)=7) by omega)]
  rfl
theorem name_form {k:Nat}(n:Int):(if qM k then decide (In n 1 30) else (n == 0))=decide (Zp k n):=by
 by_cases c:4<=k/\k<=8
 ·have e:qM k=true:=decide_eq_true c
  have a:In (k:Int) 4 8:=⟨by omega,by omega⟩
  rw[e,if_pos rfl,Bool.eq_iff_iff,decide_eq_true_eq,decide_eq_true_eq];unfold Zp;rw[if_pos a]
 ·have e:qM k=false:=decide_eq_false c
  rw[e,zbe n (show ¬ In (k:Int) 4 8 by unfold In;omega)]
  rfl
theorem legs_form {k:Nat}(n:Nat):(if decide (0<qx k) then decide (In (n:Int) 1 (qx k)) else ((n:Int) == 0))=decide (qj k n):=by
 by_cases c:k=1∨k=2∨k=3∨k=5
 ·have e:qx k=3:=if_pos c
  have a:zR (k:Int):=by unfold zR;omega
  rw[e,show decide ((0:Int)<3)=true from rfl,if_pos rfl,Bool.eq_iff_iff,decide_eq_true_eq,decide_eq_true_eq];unfold qj In;rw[if_pos a]
  omega
 ·have a:¬ zR (k:Int):=by unfold zR;omega
  by_cases c9:k=9
  ·have e:qx k=1:=by unfold qx;rw[if_neg c,if_pos c9]
   rw[e,show decide ((0:Int)<1)=true from rfl,if_pos rfl,Bool.eq_iff_iff,decide_eq_true_eq,decide_eq_true_eq];unfold qj In;rw[if_neg a,if_pos (by omega)]
   omega
  ·have e:qx k=0:=by unfold qx;rw[if_neg c,if_neg c9]
   rw[e,show decide ((0:Int)<0)=false from rfl,if_neg (by decide),zbP,Bool.eq_iff_iff,decide_eq_true_eq,decide_eq_true_eq]
   unfold qj;rw[if_neg a,if_neg (by omega)]
theorem zir {k:Nat}{q:Bool}{p:Zf}(h:q=true↔qI p):(if qp k then q else PZ p.pe p.len p.hei p.cl p.all p.be)=decide (qt k p):=by
 by_cases c:k=1∨k=2∨k=3∨k=5
 ·have e:qp k=true:=decide_eq_true c
  rw[e,if_pos rfl];exact(zal (show zR (k:Int) by unfold zR;omega) h).symm
 ·have e:qp k=false:=decide_eq_false c
  rw[e,if_neg (by decide)]
  exact QV (show ¬ zR (k:Int) by unfold zR;omega)
theorem zis {k:Nat}(u:Int):(if qs k then decide (In u 0 10000) else (u == 0))=decide (ZD k u):=by
 by_cases c:k=2
 ·have e:qs k=true:=decide_eq_true c
  rw[e,if_pos rfl,Bool.eq_iff_iff,decide_eq_true_eq,decide_eq_true_eq];unfold ZD In
  omega
 ·have e:qs k=false:=decide_eq_false c
  rw[e,if_neg (by decide),Bool.eq_iff_iff,beq_iff_eq,decide_eq_true_eq]
  unfold ZD
  omega
theorem now_form {k:Nat}(u:Int):(if Qg k then decide (In u 0 10000) else (u == 0))=decide (zak k u):=by
 by_cases c:k=6∨k=8
 ·have e:Qg k=true:=decide_eq_true c
  rw[e,if_pos rfl,Bool.eq_iff_iff,decide_eq_true_eq,decide_eq_true_eq];unfold zak In
  omega
 ·have e:Qg k=false:=decide_eq_false c
  rw[e,if_neg (by decide),Bool.eq_iff_iff,beq_iff_eq,decide_eq_true_eq]
  unfold zak
  omega
theorem zit (cs:List Value)(x:OpD)(w:World)(M:x.own.size<=1000000000000000)(h:OpD.Is w cs x)(hF:Qb w) :
  Calls Tryz.prog 14 #[.agg cs.toArray] w fun e w'=>e=.returned (.bool (decide (Qz x)))/\Below w.heap.size w w':=by
 obtain⟨D,E,rfl,_,_⟩:=h;obtain⟨V,hV⟩:∃ V,V=decide (Qz x):=⟨_,rfl⟩;rw[← hV];have H:Hid (V=true↔Qz x):=by show V=true↔Qz x;rw[hV,decide_eq_true_eq]
 clear hV;have b:=hI hF;clear hF;have qP:=party_eql x.pe x.len x.hei x.cl x.all x.be;have d:Below w.heap.size w (w.alloc (.cells #[int i64 x.kind,.string x.own,int i64 x.name,.slice D x.lgn E,int i64 x.pe,int i64 x.len,int i64 x.hei,int i64 x.cl,.bool x.all,int i64 x.be,int i64 x.unt,int i64 x.now] 27)):=zr bZ _;have b0:=heap_alloc_new w (.cells #[int i64 x.kind,.string x.own,int i64 x.name,.slice D x.lgn E,int i64 x.pe,int i64 x.len,int i64 x.hei,int i64 x.cl,.bool x.all,int i64 x.be,int i64 x.unt,int i64 x.now] 27);go_enter Tryz.func14,Tryz.ntmps14;go_wp2_with fail;generalize w.alloc (.cells #[int i64 x.kind,.string x.own,int i64 x.name,.slice D x.lgn E,int i64 x.pe,int i64 x.len,int i64 x.hei,int i64 x.cl,.bool x.all,int i64 x.be,int i64 x.unt,int i64 x.now] 27)=W at d b0 ⊢;obtain⟨t0,N⟩:∃ t,t=decide (In x.kind 1 9):=⟨_,rfl⟩;have L:Hid (t0=true↔In x.kind 1 9):=by show t0=true↔In x.kind 1 9;rw[N,decide_eq_true_eq]
 refine(ql _ _ _ _).mono ?_;rw[← N];clear N;rintro e v ⟨rfl,hv⟩;have hv:=hv.symm;subst hv
 cases t0 with
 | false =>
  have n:Hid (V=false):=Bool.eq_false_iff.2 (fun h=>by have:=L.out.2 (H.out.1 h).1;cases this)
  go_wp2;go_ret;exact⟨by rw[n.out];rfl,d⟩
 | true =>
 have J:Hid (In x.kind 1 9):=L.out.1 rfl;obtain⟨k,hk⟩:∃ k:Nat,x.kind=(k:Int):=⟨x.kind.toNat,by have:=J.out.1;omega⟩
 have s:=hI hk;have c1:1<=k/\k<=9:=by have:=J.out;unfold In at this;omega
 clear L;have t0:W.cell? ⟨0,k*7,none⟩=some (.bool (qr k)):=(d.cell (p:=⟨0,k*7,none⟩) b.out.lt).trans (b.out k (by omega)).1
 have t1:W.cell? ⟨0,k*7+1,none⟩=some (.bool (qM k)):=(d.cell (p:=⟨0,k*7+1,none⟩) b.out.lt).trans (b.out k (by omega)).2.1
 have t2:W.cell? ⟨0,k*7+2,none⟩=some (int i64 (qx k)):=(d.cell (p:=⟨0,k*7+2,none⟩) b.out.lt).trans (b.out k (by omega)).2.2.1
 have t3:W.cell? ⟨0,k*7+3,none⟩=some (.bool (qp k)):=(d.cell (p:=⟨0,k*7+3,none⟩) b.out.lt).trans (b.out k (by omega)).2.2.2.1
 have t4:W.cell? ⟨0,k*7+4,none⟩=some (.bool (qs k)):=(d.cell (p:=⟨0,k*7+4,none⟩) b.out.lt).trans (b.out k (by omega)).2.2.2.2.1
 have t5:W.cell? ⟨0,k*7+5,none⟩=some (.bool (Qg k)):=(d.cell (p:=⟨0,k*7+5,none⟩) b.out.lt).trans (b.out k (by omega)).2.2.2.2.2.1
 have t6:W.cell? ⟨0,k*7+6,none⟩=some (.bool (Zc k)):=(d.cell (p:=⟨0,k*7+6,none⟩) b.out.lt).trans (b.out k (by omega)).2.2.2.2.2.2
 have y0:W.cell? ⟨w.heap.size,0,none⟩=some (int i64 (k:Int)):=by rw[← hk];exact za b0 0 _ rfl
 have b9:(0:Int)<=(k:Int):=by omega
 have c0:(k:Int)<10:=by omega
 have c:=ze b0 (.cells #[.bool (qr k),.bool (qM k),int i64 (qx k),.bool (qp k),.bool (qs k),.bool (Qg k),.bool (Zc k)] 69);have f:=heap_alloc_new W (.cells #[.bool (qr k),.bool (qM k),int i64 (qx k),.bool (qp k),.bool (qs k),.bool (Qg k),.bool (Zc k)] 69);have l:=zr d (.cells #[.bool (qr k),.bool (qM k),int i64 (qx k),.bool (qp k),.bool (qs k),.bool (Qg k),.bool (Zc k)] 69);clear hk;go_upto_region 4 with fail;generalize hFx:W.heap.size=Q at f ⊢;generalize W.alloc (.cells #[.bool (qr k),.bool (qM k),int i64 (qx k),.bool (qp k),.bool (qs k),.bool (Qg k),.bool (Zc k)] 69)=j at l c f ⊢;clear y0 t0 t1 t2 t3 t4 t5 t6 b9 c0 d b0 hFx;have B:=zZ c;have R:=zZ f;have z1:∀ g:qe j,g.val.cell? ⟨w.heap.size,1,none⟩=some (.string x.own):=fun g=>(g.bel.cell B).trans (za c 1 _ rfl)
 have z2:∀ g:qe j,g.val.cell? ⟨w.heap.size,2,none⟩=some (int i64 x.name):=fun g=>(g.bel.cell B).trans (za c 2 _ rfl)
 have z3:∀ g:qe j,g.val.cell? ⟨w.heap.size,3,none⟩=some (.slice D x.lgn E):=fun g=>(g.bel.cell B).trans (za c 3 _ rfl)
 have z4:∀ g:qe j,g.val.cell? ⟨w.heap.size,4,none⟩=some (int i64 x.pe):=fun g=>(g.bel.cell B).trans (za c 4 _ rfl)
 have z5:∀ g:qe j,g.val.cell? ⟨w.heap.size,5,none⟩=some (int i64 x.len):=fun g=>(g.bel.cell B).trans (za c 5 _ rfl)
 have z6:∀ g:qe j,g.val.cell? ⟨w.heap.size,6,none⟩=some (int i64 x.hei):=fun g=>(g.bel.cell B).trans (za c 6 _ rfl)
 have z7:∀ g:qe j,g.val.cell? ⟨w.heap.size,7,none⟩=some (int i64 x.cl):=fun g=>(g.bel.cell B).trans (za c 7 _ rfl)
 have z8:∀ g:qe j,g.val.cell? ⟨w.heap.size,8,none⟩=some (.bool x.all):=fun g=>(g.bel.cell B).trans (za c 8 _ rfl)
 have z9:∀ g:qe j,g.val.cell? ⟨w.heap.size,9,none⟩=some (int i64 x.be):=fun g=>(g.bel.cell B).trans (za c 9 _ rfl)
 have c2:∀ g:qe j,g.val.cell? ⟨w.heap.size,10,none⟩=some (int i64 x.unt):=fun g=>(g.bel.cell B).trans (za c 10 _ rfl)
 have c3:∀ g:qe j,g.val.cell? ⟨w.heap.size,11,none⟩=some (int i64 x.now):=fun g=>(g.bel.cell B).trans (za c 11 _ rfl)
 have f0:∀ g:qe j,g.val.cell? ⟨Q,0,none⟩=some (.bool (qr k)):=fun g=>(g.bel.cell R).trans (za f 0 _ rfl)
 have f1:∀ g:qe j,g.val.cell? ⟨Q,1,none⟩=some (.bool (qM k)):=fun g=>(g.bel.cell R).trans (za f 1 _ rfl)
 have f2:∀ g:qe j,g.val.cell? ⟨Q,2,none⟩=some (int i64 (qx k)):=fun g=>(g.bel.cell R).trans (za f 2 _ rfl)
 have f3:∀ g:qe j,g.val.cell? ⟨Q,3,none⟩=some (.bool (qp k)):=fun g=>(g.bel.cell R).trans (za f 3 _ rfl)
 have f4:∀ g:qe j,g.val.cell? ⟨Q,4,none⟩=some (.bool (qs k)):=fun g=>(g.bel.cell R).trans (za f 4 _ rfl)
 have f5:∀ g:qe j,g.val.cell? ⟨Q,5,none⟩=some (.bool (Qg k)):=fun g=>(g.bel.cell R).trans (za f 5 _ rfl)
 obtain⟨m,a1⟩:∃ t,decide (qK x.own)=t:=⟨_,rfl⟩;have i:=hI a1;obtain⟨r,a2⟩:∃ t,decide (In x.name 1 30)=t:=⟨_,rfl⟩;have o:=hI a2;obtain⟨y,a3⟩:∃ t,decide (In (x.lgn:Int) 1 (qx k))=t:=⟨_,rfl⟩;have u:=hI a3;obtain⟨z,a5⟩:∃ t,decide (qI ⟨x.pe,x.len,x.hei,x.cl,x.all,x.be⟩)=t:=⟨_,rfl⟩;have A:=hI a5;obtain⟨F,a6⟩:∃ t,decide (In x.unt 0 10000)=t:=⟨_,rfl⟩;have C:=hI a6;obtain⟨O,a7⟩:∃ t,decide (In x.now 0 10000)=t:=⟨_,rfl⟩;have K:=hI a7;clear a1 a2 a3 a5 a6 a7 c f;have T:Hid ((if qr k then m else x.own.toList.isEmpty)=true↔qO x.kind x.own):=by
  show(if qr k then m else x.own.toList.isEmpty)=true↔qO x.kind x.own
  rw[← i.out,ziq x.own,decide_eq_true_eq,s.out]
 have U:Hid ((if qM k then r else (x.name == 0))=true↔Zp x.kind x.name):=by
  show(if qM k then r else (x.name == 0))=true↔Zp x.kind x.name
  rw[← o.out,name_form x.name,decide_eq_true_eq,s.out]
 have X:Hid ((if decide (0<qx k) then y else ((x.lgn:Int) == 0))=true↔qj x.kind x.lgn):=by
  show(if decide (0<qx k) then y else ((x.lgn:Int) == 0))=true↔qj x.kind x.lgn
  rw[← u.out,legs_form x.lgn,decide_eq_true_eq,s.out]
 have Y:Hid ((if qp k then z else (PZ x.pe x.len x.hei x.cl x.all x.be))=true↔qt x.kind x.p):=by
  show(if qp k then z else (PZ x.pe x.len x.hei x.cl x.all x.be))=true↔qt x.kind x.p
  have h3:(if qp k then z else PZ x.pe x.len x.hei x.cl x.all x.be)=decide (qt (k:Int) x.p):=zir (p:=x.p) (show z=true↔qI x.p by rw[← A.out,decide_eq_true_eq];exact Iff.rfl)
  rw[h3,decide_eq_true_eq,s.out]
 have Z:Hid ((if qs k then F else (x.unt == 0))=true↔ZD x.kind x.unt):=by
  show(if qs k then F else (x.unt == 0))=true↔ZD x.kind x.unt
  rw[← C.out,zis x.unt,decide_eq_true_eq,s.out]
 have a0:Hid ((if Qg k then O else (x.now == 0))=true↔zak x.kind x.now):=by
  show(if Qg k then O else (x.now == 0))=true↔zak x.kind x.now
  rw[← K.out,now_form x.now,decide_eq_true_eq,s.out]
 by_cases p0:qO x.kind x.own
 case neg =>
  have G:Hid ((if qr k then m else x.own.toList.isEmpty)=false):=Bool.eq_false_iff.2 (fun h=>p0 (T.out.1 h))
  have n:Hid (V=false):=Bool.eq_false_iff.2 (fun h=>p0 (H.out.1 h).2.1)
  clear p0;refine zp (by kernel_rfl) (by kernel_rfl) ?_
  simp only[List.append_eq,List.cons_append,List.nil_append]
  repeat(first|go_big_quiet_skip|(go_big_quiet_want;go_big_quiet_op;first|go_big_quiet_on|(apply Exists.intro;refine⟨fun g=>?_,?_⟩;(focus(go_at_call 33;with_reducible refine zi (v:=.bool m) (Calls.mono (Zz x.own _ M) ?_);rintro e a ⟨rfl,rfl⟩;exact⟨by rw[i.out],bZ⟩));go_big_quiet_on)|(apply Exists.intro;refine⟨fun g=>?_,?_⟩;(focus(go_at_call 32;with_reducible refine zi (v:=.bool false) (Calls.mono (qg (qr k) m x.own.toList.isEmpty _) ?_);rintro e a ⟨rfl,rfl⟩;exact⟨by rw[G.out],bZ⟩));go_big_quiet_on)))
  refine wpQuiet_nil ?_;rintro _ ⟨g,rfl⟩;go_wp2;go_ret;exact⟨by rw[n.out];rfl,zj l g.bel⟩
 have G:=hI (T.out.2 p0);have a8:=hI p0;clear p0
 by_cases p1:Zp x.kind x.name
 case neg =>
  have I:Hid ((if qM k then r else (x.name == 0))=false):=Bool.eq_false_iff.2 (fun h=>p1 (U.out.1 h))
  have n:Hid (V=false):=Bool.eq_false_iff.2 (fun h=>p1 (H.out.1 h).2.2.1)
  clear p1;refine zp (by kernel_rfl) (by kernel_rfl) ?_
  simp only[List.append_eq,List.cons_append,List.nil_append]
  repeat(first|go_big_quiet_skip|(go_big_quiet_want;go_big_quiet_op;first|go_big_quiet_on|(apply Exists.intro;refine⟨fun g=>?_,?_⟩;(focus(go_at_call 33;with_reducible refine zi (v:=.bool m) (Calls.mono (Zz x.own _ M) ?_);rintro e a ⟨rfl,rfl⟩;exact⟨by rw[i.out],bZ⟩));go_big_quiet_on)|(apply Exists.intro;refine⟨fun g=>?_,?_⟩;(focus(go_at_call 31;with_reducible refine zi (v:=.bool r) (Calls.mono (ql x.name 1 30 _) ?_);rintro e a ⟨rfl,rfl⟩;exact⟨by rw[o.out],bZ⟩));go_big_quiet_on)|(apply Exists.intro;refine⟨fun g=>?_,?_⟩;(focus(go_at_call 32;with_reducible refine zi (v:=.bool true) (Calls.mono (qg (qr k) m x.own.toList.isEmpty _) ?_);rintro e a ⟨rfl,rfl⟩;exact⟨by rw[G.out],bZ⟩));go_big_quiet_on)|(apply Exists.intro;refine⟨fun g=>?_,?_⟩;(focus(go_at_call 32;with_reducible refine zi (v:=.bool false) (Calls.mono (qg (qM k) r (x.name == 0) _) ?_);rintro e a ⟨rfl,rfl⟩;exact⟨by rw[I.out],bZ⟩));go_big_quiet_on)))
  refine wpQuiet_nil ?_;rintro _ ⟨g,rfl⟩;go_wp2;go_ret;exact⟨by rw[n.out];rfl,zj l g.bel⟩
 have I:=hI (U.out.2 p1);have a9:=hI p1;clear p1
 by_cases p2:qj x.kind x.lgn
 case neg =>
  have P:Hid ((if decide (0<qx k) then y else ((x.lgn:Int) == 0))=false):=Bool.eq_false_iff.2 (fun h=>p2 (X.out.1 h))
  have n:Hid (V=false):=Bool.eq_false_iff.2 (fun h=>p2 (H.out.1 h).2.2.2.1)
  clear p2;refine zp (by kernel_rfl) (by kernel_rfl) ?_
  simp only[List.append_eq,List.cons_append,List.nil_append]
  repeat(first|go_big_quiet_skip|(go_big_quiet_want;go_big_quiet_op;first|go_big_quiet_on|(apply Exists.intro;refine⟨fun g=>?_,?_⟩;(focus(go_at_call 33;with_reducible refine zi (v:=.bool m) (Calls.mono (Zz x.own _ M) ?_);rintro e a ⟨rfl,rfl⟩;exact⟨by rw[i.out],bZ⟩));go_big_quiet_on)|(apply Exists.intro;refine⟨fun g=>?_,?_⟩;(focus(go_at_call 31;with_reducible refine zi (v:=.bool r) (Calls.mono (ql x.name 1 30 _) ?_);rintro e a ⟨rfl,rfl⟩;exact⟨by rw[o.out],bZ⟩));go_big_quiet_on)|(apply Exists.intro;refine⟨fun g=>?_,?_⟩;(focus(go_at_call 31;with_reducible refine zi (v:=.bool y) (Calls.mono (ql (x.lgn:Int) 1 (qx k) _) ?_);rintro e a ⟨rfl,rfl⟩;exact⟨by rw[u.out],bZ⟩));go_big_quiet_on)|(apply Exists.intro;refine⟨fun g=>?_,?_⟩;(focus(go_at_call 32;with_reducible refine zi (v:=.bool true) (Calls.mono (qg (qr k) m x.own.toList.isEmpty _) ?_);rintro e a ⟨rfl,rfl⟩;exact⟨by rw[G.out],bZ⟩));go_big_quiet_on)|(apply Exists.intro;refine⟨fun g=>?_,?_⟩;(focus(go_at_call 32;with_reducible refine zi (v:=.bool true) (Calls.mono (qg (qM k) r (x.name == 0) _) ?_);rintro e a ⟨rfl,rfl⟩;exact⟨by rw[I.out],bZ⟩));go_big_quiet_on)|(apply Exists.intro;refine⟨fun g=>?_,?_⟩;(focus(go_at_call 32;with_reducible refine zi (v:=.bool false) (Calls.mono (qg (decide (0<qx k)) y ((x.lgn:Int) == 0) _) ?_);rintro e a ⟨rfl,rfl⟩;exact⟨by rw[P.out],bZ⟩));go_big_quiet_on)))
  refine wpQuiet_nil ?_;rintro _ ⟨g,rfl⟩;go_wp2;go_ret;exact⟨by rw[n.out];rfl,zj l g.bel⟩
 have P:=hI (X.out.2 p2);have b5:=hI p2;clear p2
 by_cases p3:qt x.kind x.p
 case neg =>
  have S:Hid ((if qp k then z else (PZ x.pe x.len x.hei x.cl x.all x.be))=false):=Bool.eq_false_iff.2 (fun h=>p3 (Y.out.1 h))
  have n:Hid (V=false):=Bool.eq_false_iff.2 (fun h=>p3 (H.out.1 h).2.2.2.2.1)
  clear p3;refine zp (by kernel_rfl) (by kernel_rfl) ?_
  simp only[List.append_eq,List.cons_append,List.nil_append]
  repeat(first|go_big_quiet_skip|(go_big_quiet_want;go_big_quiet_op;first|go_big_quiet_on|(apply Exists.intro;refine⟨fun g=>?_,?_⟩;(focus(go_at_call 33;with_reducible refine zi (v:=.bool m) (Calls.mono (Zz x.own _ M) ?_);rintro e a ⟨rfl,rfl⟩;exact⟨by rw[i.out],bZ⟩));go_big_quiet_on)|(apply Exists.intro;refine⟨fun g=>?_,?_⟩;(focus(go_at_call 31;with_reducible refine zi (v:=.bool r) (Calls.mono (ql x.name 1 30 _) ?_);rintro e a ⟨rfl,rfl⟩;exact⟨by rw[o.out],bZ⟩));go_big_quiet_on)|(apply Exists.intro;refine⟨fun g=>?_,?_⟩;(focus(go_at_call 31;with_reducible refine zi (v:=.bool y) (Calls.mono (ql (x.lgn:Int) 1 (qx k) _) ?_);rintro e a ⟨rfl,rfl⟩;exact⟨by rw[u.out],bZ⟩));go_big_quiet_on)|(apply Exists.intro;refine⟨fun g=>?_,?_⟩;(focus(go_at_call 34;with_reducible refine zi (v:=.bool z) (Calls.mono (zad x.pe x.len x.hei x.cl x.all x.be _) ?_);rintro e a ⟨rfl,q⟩;exact⟨by rw[A.out],q⟩));go_big_quiet_on)|(apply Exists.intro;refine⟨fun g=>?_,?_⟩;(focus(go_at_call 32;with_reducible refine zi (v:=.bool true) (Calls.mono (qg (qr k) m x.own.toList.isEmpty _) ?_);rintro e a ⟨rfl,rfl⟩;exact⟨by rw[G.out],bZ⟩));go_big_quiet_on)|(apply Exists.intro;refine⟨fun g=>?_,?_⟩;(focus(go_at_call 32;with_reducible refine zi (v:=.bool true) (Calls.mono (qg (qM k) r (x.name == 0) _) ?_);rintro e a ⟨rfl,rfl⟩;exact⟨by rw[I.out],bZ⟩));go_big_quiet_on)|(apply Exists.intro;refine⟨fun g=>?_,?_⟩;(focus(go_at_call 32;with_reducible refine zi (v:=.bool true) (Calls.mono (qg (decide (0<qx k)) y ((x.lgn:Int) == 0) _) ?_);rintro e a ⟨rfl,rfl⟩;exact⟨by rw[P.out],bZ⟩));go_big_quiet_on)|(apply Exists.intro;refine⟨fun g=>?_,?_⟩;(focus(go_at_call 32;with_reducible refine zi (v:=.bool false) (Calls.mono (qg (qp k) z (PZ x.pe x.len x.hei x.cl x.all x.be) _) ?_);rintro e a ⟨rfl,rfl⟩;exact⟨by rw[S.out],bZ⟩));go_big_quiet_on)))
  refine wpQuiet_nil ?_;rintro _ ⟨g,rfl⟩;go_wp2;go_ret;exact⟨by rw[n.out];rfl,zj l g.bel⟩
 have S:=hI (Y.out.2 p3);have b6:=hI p3;clear p3
 by_cases p4:ZD x.kind x.unt
 case neg =>
  have D4:Hid ((if qs k then F else (x.unt == 0))=false):=Bool.eq_false_iff.2 (fun h=>p4 (Z.out.1 h))
  have n:Hid (V=false):=Bool.eq_false_iff.2 (fun h=>p4 (H.out.1 h).2.2.2.2.2.1)
  clear p4;refine zp (by kernel_rfl) (by kernel_rfl) ?_
  simp only[List.append_eq,List.cons_append,List.nil_append]
  repeat(first|go_big_quiet_skip|(go_big_quiet_want;go_big_quiet_op;first|go_big_quiet_on|(apply Exists.intro;refine⟨fun g=>?_,?_⟩;(focus(go_at_call 33;with_reducible refine zi (v:=.bool m) (Calls.mono (Zz x.own _ M) ?_);rintro e a ⟨rfl,rfl⟩;exact⟨by rw[i.out],bZ⟩));go_big_quiet_on)|(apply Exists.intro;refine⟨fun g=>?_,?_⟩;(focus(go_at_call 31;with_reducible refine zi (v:=.bool r) (Calls.mono (ql x.name 1 30 _) ?_);rintro e a ⟨rfl,rfl⟩;exact⟨by rw[o.out],bZ⟩));go_big_quiet_on)|(apply Exists.intro;refine⟨fun g=>?_,?_⟩;(focus(go_at_call 31;with_reducible refine zi (v:=.bool y) (Calls.mono (ql (x.lgn:Int) 1 (qx k) _) ?_);rintro e a ⟨rfl,rfl⟩;exact⟨by rw[u.out],bZ⟩));go_big_quiet_on)|(apply Exists.intro;refine⟨fun g=>?_,?_⟩;(focus(go_at_call 34;with_reducible refine zi (v:=.bool z) (Calls.mono (zad x.pe x.len x.hei x.cl x.all x.be _) ?_);rintro e a ⟨rfl,q⟩;exact⟨by rw[A.out],q⟩));go_big_quiet_on)|(apply Exists.intro;refine⟨fun g=>?_,?_⟩;(focus(go_at_call 35;with_reducible refine zi (v:=.bool F) (Calls.mono (zbh x.unt _) ?_);rintro e a ⟨rfl,rfl⟩;exact⟨by rw[C.out],bZ⟩));go_big_quiet_on)|(apply Exists.intro;refine⟨fun g=>?_,?_⟩;(focus(go_at_call 32;with_reducible refine zi (v:=.bool true) (Calls.mono (qg (qr k) m x.own.toList.isEmpty _) ?_);rintro e a ⟨rfl,rfl⟩;exact⟨by rw[G.out],bZ⟩));go_big_quiet_on)|(apply Exists.intro;refine⟨fun g=>?_,?_⟩;(focus(go_at_call 32;with_reducible refine zi (v:=.bool true) (Calls.mono (qg (qM k) r (x.name == 0) _) ?_);rintro e a ⟨rfl,rfl⟩;exact⟨by rw[I.out],bZ⟩));go_big_quiet_on)|(apply Exists.intro;refine⟨fun g=>?_,?_⟩;(focus(go_at_call 32;with_reducible refine zi (v:=.bool true) (Calls.mono (qg (decide (0<qx k)) y ((x.lgn:Int) == 0) _) ?_);rintro e a ⟨rfl,rfl⟩;exact⟨by rw[P.out],bZ⟩));go_big_quiet_on)|(apply Exists.intro;refine⟨fun g=>?_,?_⟩;(focus(go_at_call 32;with_reducible refine zi (v:=.bool true) (Calls.mono (qg (qp k) z (PZ x.pe x.len x.hei x.cl x.all x.be) _) ?_);rintro e a ⟨rfl,rfl⟩;exact⟨by rw[S.out],bZ⟩));go_big_quiet_on)|(apply Exists.intro;refine⟨fun g=>?_,?_⟩;(focus(go_at_call 32;with_reducible refine zi (v:=.bool false) (Calls.mono (qg (qs k) F (x.unt == 0) _) ?_);rintro e a ⟨rfl,rfl⟩;exact⟨by rw[D4.out],bZ⟩));go_big_quiet_on)))
  refine wpQuiet_nil ?_;rintro _ ⟨g,rfl⟩;go_wp2;go_ret;exact⟨by rw[n.out];rfl,zj l g.bel⟩
 have D4:=hI (Z.out.2 p4);have b7:=hI p4;clear p4
 by_cases p5:zak x.kind x.now
 case neg =>
  have D5:Hid ((if Qg k then O else (x.now == 0))=false):=Bool.eq_false_iff.2 (fun h=>p5 (a0.out.1 h))
  have n:Hid (V=false):=Bool.eq_false_iff.2 (fun h=>p5 (H.out.1 h).2.2.2.2.2.2)
  clear p5;refine zp (by kernel_rfl) (by kernel_rfl) ?_
  simp only[List.append_eq,List.cons_append,List.nil_append]
  repeat(first|go_big_quiet_skip|(go_big_quiet_want;go_big_quiet_op;first|go_big_quiet_on|(apply Exists.intro;refine⟨fun g=>?_,?_⟩;(focus(go_at_call 33;with_reducible refine zi (v:=.bool m) (Calls.mono (Zz x.own _ M) ?_);rintro e a ⟨rfl,rfl⟩;exact⟨by rw[i.out],bZ⟩));go_big_quiet_on)|(apply Exists.intro;refine⟨fun g=>?_,?_⟩;(focus(go_at_call 31;with_reducible refine zi (v:=.bool r) (Calls.mono (ql x.name 1 30 _) ?_);rintro e a ⟨rfl,rfl⟩;exact⟨by rw[o.out],bZ⟩));go_big_quiet_on)|(apply Exists.intro;refine⟨fun g=>?_,?_⟩;(focus(go_at_call 31;with_reducible refine zi (v:=.bool y) (Calls.mono (ql (x.lgn:Int) 1 (qx k) _) ?_);rintro e a ⟨rfl,rfl⟩;exact⟨by rw[u.out],bZ⟩));go_big_quiet_on)|(apply Exists.intro;refine⟨fun g=>?_,?_⟩;(focus(go_at_call 34;with_reducible refine zi (v:=.bool z) (Calls.mono (zad x.pe x.len x.hei x.cl x.all x.be _) ?_);rintro e a ⟨rfl,q⟩;exact⟨by rw[A.out],q⟩));go_big_quiet_on)|(apply Exists.intro;refine⟨fun g=>?_,?_⟩;(focus(go_at_call 35;with_reducible refine zi (v:=.bool F) (Calls.mono (zbh x.unt _) ?_);rintro e a ⟨rfl,rfl⟩;exact⟨by rw[C.out],bZ⟩));go_big_quiet_on)|(apply Exists.intro;refine⟨fun g=>?_,?_⟩;(focus(go_at_call 35;with_reducible refine zi (v:=.bool O) (Calls.mono (zbh x.now _) ?_);rintro e a ⟨rfl,rfl⟩;exact⟨by rw[K.out],bZ⟩));go_big_quiet_on)|(apply Exists.intro;refine⟨fun g=>?_,?_⟩;(focus(go_at_call 32;with_reducible refine zi (v:=.bool true) (Calls.mono (qg (qr k) m x.own.toList.isEmpty _) ?_);rintro e a ⟨rfl,rfl⟩;exact⟨by rw[G.out],bZ⟩));go_big_quiet_on)|(apply Exists.intro;refine⟨fun g=>?_,?_⟩;(focus(go_at_call 32;with_reducible refine zi (v:=.bool true) (Calls.mono (qg (qM k) r (x.name == 0) _) ?_);rintro e a ⟨rfl,rfl⟩;exact⟨by rw[I.out],bZ⟩));go_big_quiet_on)|(apply Exists.intro;refine⟨fun g=>?_,?_⟩;(focus(go_at_call 32;with_reducible refine zi (v:=.bool true) (Calls.mono (qg (decide (0<qx k)) y ((x.lgn:Int) == 0) _) ?_);rintro e a ⟨rfl,rfl⟩;exact⟨by rw[P.out],bZ⟩));go_big_quiet_on)|(apply Exists.intro;refine⟨fun g=>?_,?_⟩;(focus(go_at_call 32;with_reducible refine zi (v:=.bool true) (Calls.mono (qg (qp k) z (PZ x.pe x.len x.hei x.cl x.all x.be) _) ?_);rintro e a ⟨rfl,rfl⟩;exact⟨by rw[S.out],bZ⟩));go_big_quiet_on)|(apply Exists.intro;refine⟨fun g=>?_,?_⟩;(focus(go_at_call 32;with_reducible refine zi (v:=.bool true) (Calls.mono (qg (qs k) F (x.unt == 0) _) ?_);rintro e a ⟨rfl,rfl⟩;exact⟨by rw[D4.out],bZ⟩));go_big_quiet_on)|(apply Exists.intro;refine⟨fun g=>?_,?_⟩;(focus(go_at_call 32;with_reducible refine zi (v:=.bool false) (Calls.mono (qg (Qg k) O (x.now == 0) _) ?_);rintro e a ⟨rfl,rfl⟩;exact⟨by rw[D5.out],bZ⟩));go_big_quiet_on)))
  refine wpQuiet_nil ?_;rintro _ ⟨g,rfl⟩;go_wp2;go_ret;exact⟨by rw[n.out];rfl,zj l g.bel⟩
 have D5:=hI (a0.out.2 p5);have b8:=hI p5;clear p5;have n:Hid (V=true):=H.out.2 ⟨J.out,a8.out,a9.out,b5.out,b6.out,b7.out,b8.out⟩;refine zp (by kernel_rfl) (by kernel_rfl) ?_
 simp only[List.append_eq,List.cons_append,List.nil_append]
 repeat(first|go_big_quiet_skip|(go_big_quiet_want;go_big_quiet_op;first|go_big_quiet_on|(apply Exists.intro;refine⟨fun g=>?_,?_⟩;(focus(go_at_call 33;with_reducible refine zi (v:=.bool m) (Calls.mono (Zz x.own _ M) ?_);rintro e a ⟨rfl,rfl⟩;exact⟨by rw[i.out],bZ⟩));go_big_quiet_on)|(apply Exists.intro;refine⟨fun g=>?_,?_⟩;(focus(go_at_call 31;with_reducible refine zi (v:=.bool r) (Calls.mono (ql x.name 1 30 _) ?_);rintro e a ⟨rfl,rfl⟩;exact⟨by rw[o.out],bZ⟩));go_big_quiet_on)|(apply Exists.intro;refine⟨fun g=>?_,?_⟩;(focus(go_at_call 31;with_reducible refine zi (v:=.bool y) (Calls.mono (ql (x.lgn:Int) 1 (qx k) _) ?_);rintro e a ⟨rfl,rfl⟩;exact⟨by rw[u.out],bZ⟩));go_big_quiet_on)|(apply Exists.intro;refine⟨fun g=>?_,?_⟩;(focus(go_at_call 34;with_reducible refine zi (v:=.bool z) (Calls.mono (zad x.pe x.len x.hei x.cl x.all x.be _) ?_);rintro e a ⟨rfl,q⟩;exact⟨by rw[A.out],q⟩));go_big_quiet_on)|(apply Exists.intro;refine⟨fun g=>?_,?_⟩;(focus(go_at_call 35;with_reducible refine zi (v:=.bool F) (Calls.mono (zbh x.unt _) ?_);rintro e a ⟨rfl,rfl⟩;exact⟨by rw[C.out],bZ⟩));go_big_quiet_on)|(apply Exists.intro;refine⟨fun g=>?_,?_⟩;(focus(go_at_call 35;with_reducible refine zi (v:=.bool O) (Calls.mono (zbh x.now _) ?_);rintro e a ⟨rfl,rfl⟩;exact⟨by rw[K.out],bZ⟩));go_big_quiet_on)|(apply Exists.intro;refine⟨fun g=>?_,?_⟩;(focus(go_at_call 32;with_reducible refine zi (v:=.bool true) (Calls.mono (qg (qr k) m x.own.toList.isEmpty _) ?_);rintro e a ⟨rfl,rfl⟩;exact⟨by rw[G.out],bZ⟩));go_big_quiet_on)|(apply Exists.intro;refine⟨fun g=>?_,?_⟩;(focus(go_at_call 32;with_reducible refine zi (v:=.bool true) (Calls.mono (qg (qM k) r (x.name == 0) _) ?_);rintro e a ⟨rfl,rfl⟩;exact⟨by rw[I.out],bZ⟩));go_big_quiet_on)|(apply Exists.intro;refine⟨fun g=>?_,?_⟩;(focus(go_at_call 32;with_reducible refine zi (v:=.bool true) (Calls.mono (qg (decide (0<qx k)) y ((x.lgn:Int) == 0) _) ?_);rintro e a ⟨rfl,rfl⟩;exact⟨by rw[P.out],bZ⟩));go_big_quiet_on)|(apply Exists.intro;refine⟨fun g=>?_,?_⟩;(focus(go_at_call 32;with_reducible refine zi (v:=.bool true) (Calls.mono (qg (qp k) z (PZ x.pe x.len x.hei x.cl x.all x.be) _) ?_);rintro e a ⟨rfl,rfl⟩;exact⟨by rw[S.out],bZ⟩));go_big_quiet_on)|(apply Exists.intro;refine⟨fun g=>?_,?_⟩;(focus(go_at_call 32;with_reducible refine zi (v:=.bool true) (Calls.mono (qg (qs k) F (x.unt == 0) _) ?_);rintro e a ⟨rfl,rfl⟩;exact⟨by rw[D4.out],bZ⟩));go_big_quiet_on)|(apply Exists.intro;refine⟨fun g=>?_,?_⟩;(focus(go_at_call 32;with_reducible refine zi (v:=.bool true) (Calls.mono (qg (Qg k) O (x.now == 0) _) ?_);rintro e a ⟨rfl,rfl⟩;exact⟨by rw[D5.out],bZ⟩));go_big_quiet_on)))
 refine wpQuiet_nil ?_;rintro _ ⟨g,rfl⟩;go_wp2;go_ret;exact⟨by rw[n.out];rfl,zj l g.bel⟩
theorem Zt {w:World}{base e size n:Nat}{v:Value}{j:List Value}(h:w.ownsRow base e size v n j){b t:Nat}{cs:Array Value}(a:w.heap[b]?=some (.cells cs t (0,0)))(f:e≠t):∀ g,v.ownBlock=some g->¬ g=b:=by
 rintro g c rfl
 rcases h.2 with⟨rfl,_⟩|⟨g',i,cur,rfl,_,d,_⟩
 ·simp[Value.ownBlock] at c
 ·simp only[Value.ownBlock,Option.some.injEq] at c
  subst c;rw[d] at a;simp only[Option.some.injEq,Obj.cells.injEq] at a;exact f a.2.1
def Qc (w:World):Prop:=∀ k,k<10->w.cell? ⟨1,k,none⟩=some (.string (zP k))
theorem Qc.lt {w:World}(h:Qc w):1<w.heap.size:=World.block_lt_of_cell? w _ (h 0 (by decide))
theorem Qc.below {w w':World}(h:Qc w)(a:Below w.heap.size w w'):Qc w':=fun k b=>(a.cell (p:=⟨1,k,none⟩) h.lt).trans (h k b)
structure TSt (w a:World)(e d:Nat)(c b:Array Value)(v:Value)(L:List ByteArray):Prop where
 o:a.heap[e]?=some (.cells c 27 (0,0))
 f:a.heap[d]?=some (.cells b 69 (0,0))
 own:zcZ a w.heap.size v L
 bel:Below w.heap.size w a
theorem TSt.below {w b g:World}{f e:Nat}{d c:Array Value}{v:Value}{L:List ByteArray}(h:TSt w b f e d c v L)(a:Below b.heap.size b g):TSt w g f e d c v L :=
 ⟨zc h.o a,zc h.f a,zm a h.own,zj h.bel a⟩
theorem TSt.app {w k d:World}{c a:Nat}{g f:Array Value}{v i:Value}{L:List ByteArray}{p:ByteArray}(h:TSt w k c a g f v L)(b:k.grownBy d v.ownBlock)(m:d.ownsRow w.heap.size 9 1 i (L.length+1) (L.map Value.string++[.string p])):TSt w d c a g f i (L++[p]):=by
 refine⟨(zO b).blk h.o (fun e=>Zt h.own h.o (by decide) c e rfl),(zO b).blk h.f (fun e=>Zt h.own h.f (by decide) a e rfl),?_,h.bel.grown b h.bel.size (fun j l=>(World.ownsRow.lt h.own j l).1)⟩
 unfold zcZ;rw[List.length_append,List.map_append];exact m
theorem ziu (x:OpD)(a:Option Addr)(c:Nat)(w:World)(hx:qn x)(a3:IntsAt w a x.lgn x.lg)(hP:Ze w)(y:Qb w)(hW:Qc w) :
  Calls Tryz.prog 17 #[.agg #[int i64 x.kind,.string x.own,int i64 x.name,.slice a x.lgn c,int i64 x.pe,int i64 x.len,int i64 x.hei,int i64 x.cl,.bool x.all,int i64 x.be,int i64 x.unt,int i64 x.now]] w fun e w'=>∃ v,e=.returned v/\zcZ w' w.heap.size v (zcv x)/\Below w.heap.size w w':=by
 have Y:=hI hx;have HP:=hI hP;have a5:=hI a3;obtain⟨k,hk⟩:∃ k:Nat,x.kind=(k:Int):=⟨x.kind.toNat,by have:=hx.1.1.1;omega⟩
 have b:Hid (x.kind.toNat=k):=by show x.kind.toNat=k;omega
 have a0:=hI hk;have c3:1<=k/\k<=9:=by have:=hx.1.1;unfold In at this;omega
 have m:Below w.heap.size w (w.alloc (.cells #[int i64 x.kind,.string x.own,int i64 x.name,.slice a x.lgn c,int i64 x.pe,int i64 x.len,int i64 x.hei,int i64 x.cl,.bool x.all,int i64 x.be,int i64 x.unt,int i64 x.now] 27)):=zr bZ _;have b0:=heap_alloc_new w (.cells #[int i64 x.kind,.string x.own,int i64 x.name,.slice a x.lgn c,int i64 x.pe,int i64 x.len,int i64 x.hei,int i64 x.cl,.bool x.all,int i64 x.be,int i64 x.unt,int i64 x.now] 27);clear hx hP a3 hk;obtain⟨Z,ji,C,D,F⟩:=info_parts Tryz.infoText;go_enter Tryz.func17,Tryz.ntmps17;go_upto_region 1 with fail;generalize w.alloc (.cells #[int i64 x.kind,.string x.own,int i64 x.name,.slice a x.lgn c,int i64 x.pe,int i64 x.len,int i64 x.hei,int i64 x.cl,.bool x.all,int i64 x.be,int i64 x.unt,int i64 x.now] 27)=W at m b0 ⊢;have t0:W.cell? ⟨0,k*7,none⟩=some (.bool (qr k)):=(m.cell (p:=⟨0,k*7,none⟩) y.lt).trans (y k (by omega)).1
 have t1:W.cell? ⟨0,k*7+1,none⟩=some (.bool (qM k)):=(m.cell (p:=⟨0,k*7+1,none⟩) y.lt).trans (y k (by omega)).2.1
 have t2:W.cell? ⟨0,k*7+2,none⟩=some (int i64 (qx k)):=(m.cell (p:=⟨0,k*7+2,none⟩) y.lt).trans (y k (by omega)).2.2.1
 have t3:W.cell? ⟨0,k*7+3,none⟩=some (.bool (qp k)):=(m.cell (p:=⟨0,k*7+3,none⟩) y.lt).trans (y k (by omega)).2.2.2.1
 have t4:W.cell? ⟨0,k*7+4,none⟩=some (.bool (qs k)):=(m.cell (p:=⟨0,k*7+4,none⟩) y.lt).trans (y k (by omega)).2.2.2.2.1
 have t5:W.cell? ⟨0,k*7+5,none⟩=some (.bool (Qg k)):=(m.cell (p:=⟨0,k*7+5,none⟩) y.lt).trans (y k (by omega)).2.2.2.2.2.1
 have t6:W.cell? ⟨0,k*7+6,none⟩=some (.bool (Zc k)):=(m.cell (p:=⟨0,k*7+6,none⟩) y.lt).trans (y k (by omega)).2.2.2.2.2.2
 have y0:W.cell? ⟨w.heap.size,0,none⟩=some (int i64 (k:Int)):=by rw[← a0.out];exact za b0 0 _ rfl
 have a6:(0:Int)<=(k:Int):=by omega
 have a7:(k:Int)<10:=by omega
 have J:=ze b0 (.cells #[.bool (qr k),.bool (qM k),int i64 (qx k),.bool (qp k),.bool (qs k),.bool (Qg k),.bool (Zc k)] 69);have I:=heap_alloc_new W (.cells #[.bool (qr k),.bool (qM k),int i64 (qx k),.bool (qp k),.bool (qs k),.bool (Qg k),.bool (Zc k)] 69);have G:=zr m (.cells #[.bool (qr k),.bool (qM k),int i64 (qx k),.bool (qp k),.bool (qs k),.bool (Qg k),.bool (Zc k)] 69);have u0:(W.alloc (.cells #[.bool (qr k),.bool (qM k),int i64 (qx k),.bool (qp k),.bool (qs k),.bool (Qg k),.bool (Zc k)] 69)).cell? ⟨1,k,none⟩=some (.string (zP k)):=hW.below G k (by omega)
 have y1:(W.alloc (.cells #[.bool (qr k),.bool (qM k),int i64 (qx k),.bool (qp k),.bool (qs k),.bool (Qg k),.bool (Zc k)] 69)).cell? ⟨w.heap.size,0,none⟩=some (int i64 (k:Int)):=by rw[← a0.out];exact za J 0 _ rfl
 clear hW y;go_upto_region 2 with fail;generalize hFx:W.heap.size=A at I ⊢;generalize W.alloc (.cells #[.bool (qr k),.bool (qM k),int i64 (qx k),.bool (qp k),.bool (qs k),.bool (Qg k),.bool (Zc k)] 69)=P at G J I u0 y1 ⊢;clear y0 t0 t1 t2 t3 t4 t5 t6 m b0 hFx;have n:Hid (TSt w (P.alloc (.cells #[.string (zP k)] 9)) w.heap.size A #[int i64 x.kind,.string x.own,int i64 x.name,.slice a x.lgn c,int i64 x.pe,int i64 x.len,int i64 x.hei,int i64 x.cl,.bool x.all,int i64 x.be,int i64 x.unt,int i64 x.now] #[.bool (qr k),.bool (qM k),int i64 (qx k),.bool (qp k),.bool (qs k),.bool (Qg k),.bool (Zc k)] (.slice (some ⟨P.heap.size,0,none⟩) 1 1) (zcJ x)) :=
  ⟨ze J _,ze I _,by unfold zcJ;rw[b.out];exact⟨rfl,.inr ⟨P.heap.size,1,#[.string (zP k)],rfl,G.size,heap_alloc_new P _,Nat.le_refl _,by unfold maxLen;omega,rfl,rfl⟩⟩,zr G _⟩
 go_upto_region 3 with fail;generalize P.alloc (.cells #[.string (zP k)] 9)=W2 at n ⊢;generalize (Value.slice (some ⟨P.heap.size,0,none⟩) 1 1)=v0 at n ⊢;clear J I G u0 y1 a6 a7;clear P W;have f1:=za n.out.f 1 _ rfl;obtain⟨q1,Q⟩:∃ q,q=qM k:=⟨_,rfl⟩;have K:=hI Q.symm;rw[← Q] at f1;clear Q;go_upto_if 15 with fail;go_cut [4] (fun v H=>Hid (TSt w H w.heap.size A #[int i64 x.kind,.string x.own,int i64 x.name,.slice a x.lgn c,int i64 x.pe,int i64 x.len,int i64 x.hei,int i64 x.cl,.bool x.all,int i64 x.be,int i64 x.unt,int i64 x.now] #[.bool (qr k),.bool (qM k),int i64 (qx k),.bool (qp k),.bool (qs k),.bool (Qg k),.bool (Zc k)] v (zbV x)))
 case first =>
  clear f1
  cases q1 with
  | false =>
   go_wp2;go_meet;have e:zbV x=zcJ x:=by
    unfold zbV opt;rw[b.out,K.out];exact List.append_nil _
   rw[e];exact n.out
  | true =>
   have e:zbV x=zcJ x++[qf x.name]:=by
    unfold zbV opt;rw[b.out,K.out]
    rfl
   have E:=hI e;clear e;obtain⟨lo,lc,rfl,_⟩:=zt n.out.own;have hL:(zcJ x).length<=1:=len_P0 x;have z2:=za n.out.o 2 _ rfl;have X:=rng1 Y.out b.out K.out;go_wp2_with fail;refine(Z3 x.name (by omega) (by omega) _ (HP.out.below n.out.bel)).mono ?_
   rintro e z ⟨rfl,d⟩;have g:Hid _:=(n.out.below d).below (zr bZ (.cells #[.string (qf x.name)] 9));clear z2 d;have l:=g.out.bel.size;go_wp2_with (first|(at_builtin;refine zz _ (by rfl) (.tmp 16) (.tmp 20) 46 (by rfl) w.heap.size 9 Z (.string ⟨#[]⟩) 1 16 Tryz.underlying46 ji C D F rfl (by decide) _ (zcJ x).length ((zcJ x).map Value.string) (by rfl) g.out.own (some ⟨z.heap.size,0,none⟩) 1 1 [.string (qf x.name)] (by rfl) (fun h=>by cases h) (by rfl) (fun ad h=>by cases h;exact World.news_of_block (heap_alloc_new z _)) (by intro u r;simp only[List.mem_cons,List.not_mem_nil,or_false] at r;subst r;rfl) (by unfold maxLen;omega) (by omega) l ?_;intro v9 w9 j i))
   go_meet;rw[E.out];exact g.out.app i j
 case rest =>
 obtain⟨v1,a9,B⟩:∃ v,v=u4/\Hid (TSt w wc w.heap.size A #[int i64 x.kind,.string x.own,int i64 x.name,.slice a x.lgn c,int i64 x.pe,int i64 x.len,int i64 x.hei,int i64 x.cl,.bool x.all,int i64 x.be,int i64 x.unt,int i64 x.now] #[.bool (qr k),.bool (qM k),int i64 (qx k),.bool (qp k),.bool (qs k),.bool (Qg k),.bool (Zc k)] v (zbV x)):=⟨_,rfl,hcut.out⟩;subst a9;clear hcut n;have f2:=za B.out.f 0 _ rfl;obtain⟨q2,R⟩:∃ q,q=qr k:=⟨_,rfl⟩;have a1:=hI R.symm;rw[← R] at f2;clear R;go_upto_if 23 with fail;go_cut [4] (fun v H=>Hid (TSt w H w.heap.size A #[int i64 x.kind,.string x.own,int i64 x.name,.slice a x.lgn c,int i64 x.pe,int i64 x.len,int i64 x.hei,int i64 x.cl,.bool x.all,int i64 x.be,int i64 x.unt,int i64 x.now] #[.bool (qr k),.bool (qM k),int i64 (qx k),.bool (qp k),.bool (qs k),.bool (Qg k),.bool (Zc k)] v (zcf x)))
 case first =>
  clear f2
  cases q2 with
  | false =>
   go_wp2;go_meet;have e:zcf x=zbV x:=by
    unfold zcf opt;rw[b.out,a1.out];exact List.append_nil _
   rw[e];exact B.out
  | true =>
   have e:zcf x=zbV x++[x.own]:=by
    unfold zcf opt;rw[b.out,a1.out]
    rfl
   have E:=hI e;clear e;obtain⟨lo,lc,rfl,_⟩:=zt B.out.own;have hL:(zbV x).length<=2:=len_P1 x;have z1:=za B.out.o 1 _ rfl;have g:Hid _:=B.out.below (zr bZ (.cells #[.string x.own] 9));have l:=g.out.bel.size;go_wp2_with (first|(at_builtin;refine zz _ (by rfl) (.tmp 24) (.tmp 27) 46 (by rfl) w.heap.size 9 Z (.string ⟨#[]⟩) 1 16 Tryz.underlying46 ji C D F rfl (by decide) _ (zbV x).length ((zbV x).map Value.string) (by rfl) g.out.own (some ⟨wc.heap.size,0,none⟩) 1 1 [.string x.own] (by rfl) (fun h=>by cases h) (by rfl) (fun ad h=>by cases h;exact World.news_of_block (heap_alloc_new wc _)) (by intro u r;simp only[List.mem_cons,List.not_mem_nil,or_false] at r;subst r;rfl) (by unfold maxLen;omega) (by omega) l ?_;intro v9 w9 j i))
   go_meet;rw[E.out];exact g.out.app i j
 case rest =>
 obtain⟨v2,b5,o⟩:∃ v,v=u4/\Hid (TSt w wc w.heap.size A #[int i64 x.kind,.string x.own,int i64 x.name,.slice a x.lgn c,int i64 x.pe,int i64 x.len,int i64 x.hei,int i64 x.cl,.bool x.all,int i64 x.be,int i64 x.unt,int i64 x.now] #[.bool (qr k),.bool (qM k),int i64 (qx k),.bool (qp k),.bool (qs k),.bool (Qg k),.bool (Zc k)] v (zcf x)):=⟨_,rfl,hcut.out⟩;subst b5;clear hcut B;have f3:=za o.out.f 2 _ rfl;have a8:decide ((0:Int)<qx k)=decide (0<qx k):=rfl;obtain⟨q3,S⟩:∃ q,q=decide (0<qx k):=⟨_,rfl⟩;have L:=hI S.symm;have c2:decide ((0:Int)<qx k)=q3:=S.symm;clear S a8;go_upto_if 31 with fail;go_cut [4] (fun v H=>Hid (TSt w H w.heap.size A #[int i64 x.kind,.string x.own,int i64 x.name,.slice a x.lgn c,int i64 x.pe,int i64 x.len,int i64 x.hei,int i64 x.cl,.bool x.all,int i64 x.be,int i64 x.unt,int i64 x.now] #[.bool (qr k),.bool (qM k),int i64 (qx k),.bool (qp k),.bool (qs k),.bool (Qg k),.bool (Zc k)] v (zbW x)))
 case first =>
  clear f3
  cases q3 with
  | false =>
   go_wp2;go_meet;have e:zbW x=zcf x:=by
    unfold zbW opt;rw[b.out,L.out];exact List.append_nil _
   rw[e];exact o.out
  | true =>
   have e:zbW x=zcf x++[ZB x.lgn x.lg]:=by
    unfold zbW opt;rw[b.out,L.out]
    rfl
   have E:=hI e;clear e;obtain⟨lo,lc,rfl,_⟩:=zt o.out.own;have hL:(zcf x).length<=3:=len_P2 x;have z3:=za o.out.o 3 _ rfl;have X:=rng3 Y.out b.out L.out;go_wp2_with fail;refine(zho a x.lgn c x.lg _ X.1 X.2 (a5.out.below o.out.bel) Y.out.2 (HP.out.below o.out.bel)).mono ?_;rintro e z ⟨rfl,d⟩;have g:Hid _:=(o.out.below d).below (zr bZ (.cells #[.string (ZB x.lgn x.lg)] 9));clear z3 d;have l:=g.out.bel.size;go_wp2_with (first|(at_builtin;refine zz _ (by rfl) (.tmp 32) (.tmp 36) 46 (by rfl) w.heap.size 9 Z (.string ⟨#[]⟩) 1 16 Tryz.underlying46 ji C D F rfl (by decide) _ (zcf x).length ((zcf x).map Value.string) (by rfl) g.out.own (some ⟨z.heap.size,0,none⟩) 1 1 [.string (ZB x.lgn x.lg)] (by rfl) (fun h=>by cases h) (by rfl) (fun ad h=>by cases h;exact World.news_of_block (heap_alloc_new z _)) (by intro u r;simp only[List.mem_cons,List.not_mem_nil,or_false] at r;subst r;rfl) (by unfold maxLen;omega) (by omega) l ?_;intro v9 w9 j i))
   go_meet;rw[E.out];exact g.out.app i j
 case rest =>
 obtain⟨v3,b6,f⟩:∃ v,v=u4/\Hid (TSt w wc w.heap.size A #[int i64 x.kind,.string x.own,int i64 x.name,.slice a x.lgn c,int i64 x.pe,int i64 x.len,int i64 x.hei,int i64 x.cl,.bool x.all,int i64 x.be,int i64 x.unt,int i64 x.now] #[.bool (qr k),.bool (qM k),int i64 (qx k),.bool (qp k),.bool (qs k),.bool (Qg k),.bool (Zc k)] v (zbW x)):=⟨_,rfl,hcut.out⟩;subst b6;clear hcut o;have f4:=za f.out.f 3 _ rfl;obtain⟨q4,T⟩:∃ q,q=qp k:=⟨_,rfl⟩;have M:=hI T.symm;rw[← T] at f4;clear T;go_upto_if 39 with fail;go_cut [4] (fun v H=>Hid (TSt w H w.heap.size A #[int i64 x.kind,.string x.own,int i64 x.name,.slice a x.lgn c,int i64 x.pe,int i64 x.len,int i64 x.hei,int i64 x.cl,.bool x.all,int i64 x.be,int i64 x.unt,int i64 x.now] #[.bool (qr k),.bool (qM k),int i64 (qx k),.bool (qp k),.bool (qs k),.bool (Qg k),.bool (Zc k)] v (zbX x)))
 case first =>
  clear f4
  cases q4 with
  | false =>
   go_wp2;go_meet;have e:zbX x=zbW x:=by
    unfold zbX opt;rw[b.out,M.out];exact List.append_nil _
   rw[e];exact f.out
  | true =>
   have e:zbX x=zbW x++[qC x.p]:=by
    unfold zbX opt;rw[b.out,M.out]
    rfl
   have E:=hI e;clear e;obtain⟨lo,lc,rfl,_⟩:=zt f.out.own;have hL:(zbW x).length<=4:=len_P3 x;have z4:=za f.out.o 4 _ rfl;have z5:=za f.out.o 5 _ rfl;have z6:=za f.out.o 6 _ rfl;have z7:=za f.out.o 7 _ rfl;have z8:=za f.out.o 8 _ rfl;have z9:=za f.out.o 9 _ rfl;have X:=rng4 Y.out b.out M.out;go_wp2_with fail;refine(zfh x.p _ X (HP.out.below f.out.bel)).mono ?_;rintro e z ⟨rfl,d⟩;have g:Hid _:=(f.out.below d).below (zr bZ (.cells #[.string (qC x.p)] 9));clear z4 z5 z6 z7 z8 z9 d;have l:=g.out.bel.size;go_wp2_with (first|(at_builtin;refine zz _ (by rfl) (.tmp 40) (.tmp 44) 46 (by rfl) w.heap.size 9 Z (.string ⟨#[]⟩) 1 16 Tryz.underlying46 ji C D F rfl (by decide) _ (zbW x).length ((zbW x).map Value.string) (by rfl) g.out.own (some ⟨z.heap.size,0,none⟩) 1 1 [.string (qC x.p)] (by rfl) (fun h=>by cases h) (by rfl) (fun ad h=>by cases h;exact World.news_of_block (heap_alloc_new z _)) (by intro u r;simp only[List.mem_cons,List.not_mem_nil,or_false] at r;subst r;rfl) (by unfold maxLen;omega) (by omega) l ?_;intro v9 w9 j i))
   go_meet;rw[E.out];exact g.out.app i j
 case rest =>
 obtain⟨v4,b7,s⟩:∃ v,v=u4/\Hid (TSt w wc w.heap.size A #[int i64 x.kind,.string x.own,int i64 x.name,.slice a x.lgn c,int i64 x.pe,int i64 x.len,int i64 x.hei,int i64 x.cl,.bool x.all,int i64 x.be,int i64 x.unt,int i64 x.now] #[.bool (qr k),.bool (qM k),int i64 (qx k),.bool (qp k),.bool (qs k),.bool (Qg k),.bool (Zc k)] v (zbX x)):=⟨_,rfl,hcut.out⟩;subst b7;clear hcut f;have f5:=za s.out.f 4 _ rfl;obtain⟨q5,U⟩:∃ q,q=qs k:=⟨_,rfl⟩;have N:=hI U.symm;rw[← U] at f5;clear U;go_upto_if 47 with fail;go_cut [4] (fun v H=>Hid (TSt w H w.heap.size A #[int i64 x.kind,.string x.own,int i64 x.name,.slice a x.lgn c,int i64 x.pe,int i64 x.len,int i64 x.hei,int i64 x.cl,.bool x.all,int i64 x.be,int i64 x.unt,int i64 x.now] #[.bool (qr k),.bool (qM k),int i64 (qx k),.bool (qp k),.bool (qs k),.bool (Qg k),.bool (Zc k)] v (zcg x)))
 case first =>
  clear f5
  cases q5 with
  | false =>
   go_wp2;go_meet;have e:zcg x=zbX x:=by
    unfold zcg opt;rw[b.out,N.out];exact List.append_nil _
   rw[e];exact s.out
  | true =>
   have e:zcg x=zbX x++[qf x.unt]:=by
    unfold zcg opt;rw[b.out,N.out]
    rfl
   have E:=hI e;clear e;obtain⟨lo,lc,rfl,_⟩:=zt s.out.own;have hL:(zbX x).length<=5:=len_P4 x;have c0:=za s.out.o 10 _ rfl;have X:=rng5 Y.out b.out N.out;go_wp2_with fail;refine(Z3 x.unt (by omega) (by omega) _ (HP.out.below s.out.bel)).mono ?_
   rintro e z ⟨rfl,d⟩;have g:Hid _:=(s.out.below d).below (zr bZ (.cells #[.string (qf x.unt)] 9));clear c0 d;have l:=g.out.bel.size;go_wp2_with (first|(at_builtin;refine zz _ (by rfl) (.tmp 48) (.tmp 52) 46 (by rfl) w.heap.size 9 Z (.string ⟨#[]⟩) 1 16 Tryz.underlying46 ji C D F rfl (by decide) _ (zbX x).length ((zbX x).map Value.string) (by rfl) g.out.own (some ⟨z.heap.size,0,none⟩) 1 1 [.string (qf x.unt)] (by rfl) (fun h=>by cases h) (by rfl) (fun ad h=>by cases h;exact World.news_of_block (heap_alloc_new z _)) (by intro u r;simp only[List.mem_cons,List.not_mem_nil,or_false] at r;subst r;rfl) (by unfold maxLen;omega) (by omega) l ?_;intro v9 w9 j i))
   go_meet;rw[E.out];exact g.out.app i j
 case rest =>
 obtain⟨v5,b8,t⟩:∃ v,v=u4/\Hid (TSt w wc w.heap.size A #[int i64 x.kind,.string x.own,int i64 x.name,.slice a x.lgn c,int i64 x.pe,int i64 x.len,int i64 x.hei,int i64 x.cl,.bool x.all,int i64 x.be,int i64 x.unt,int i64 x.now] #[.bool (qr k),.bool (qM k),int i64 (qx k),.bool (qp k),.bool (qs k),.bool (Qg k),.bool (Zc k)] v (zcg x)):=⟨_,rfl,hcut.out⟩;subst b8;clear hcut s;have f6:=za t.out.f 5 _ rfl;obtain⟨q6,V⟩:∃ q,q=Qg k:=⟨_,rfl⟩;have O:=hI V.symm;rw[← V] at f6;clear V;go_upto_if 55 with fail;go_cut [4] (fun v H=>Hid (TSt w H w.heap.size A #[int i64 x.kind,.string x.own,int i64 x.name,.slice a x.lgn c,int i64 x.pe,int i64 x.len,int i64 x.hei,int i64 x.cl,.bool x.all,int i64 x.be,int i64 x.unt,int i64 x.now] #[.bool (qr k),.bool (qM k),int i64 (qx k),.bool (qp k),.bool (qs k),.bool (Qg k),.bool (Zc k)] v (zcv x)))
 case first =>
  clear f6
  cases q6 with
  | false =>
   go_wp2;go_meet;have e:zcv x=zcg x:=by
    unfold zcv opt;rw[b.out,O.out];exact List.append_nil _
   rw[e];exact t.out
  | true =>
   have e:zcv x=zcg x++[qf x.now]:=by
    unfold zcv opt;rw[b.out,O.out]
    rfl
   have E:=hI e;clear e;obtain⟨lo,lc,rfl,_⟩:=zt t.out.own;have hL:(zcg x).length<=6:=len_P5 x;have c1:=za t.out.o 11 _ rfl;have X:=rng6 Y.out b.out O.out;go_wp2_with fail;refine(Z3 x.now (by omega) (by omega) _ (HP.out.below t.out.bel)).mono ?_
   rintro e z ⟨rfl,d⟩;have g:Hid _:=(t.out.below d).below (zr bZ (.cells #[.string (qf x.now)] 9));clear c1 d;have l:=g.out.bel.size;go_wp2_with (first|(at_builtin;refine zz _ (by rfl) (.tmp 56) (.tmp 60) 46 (by rfl) w.heap.size 9 Z (.string ⟨#[]⟩) 1 16 Tryz.underlying46 ji C D F rfl (by decide) _ (zcg x).length ((zcg x).map Value.string) (by rfl) g.out.own (some ⟨z.heap.size,0,none⟩) 1 1 [.string (qf x.now)] (by rfl) (fun h=>by cases h) (by rfl) (fun ad h=>by cases h;exact World.news_of_block (heap_alloc_new z _)) (by intro u r;simp only[List.mem_cons,List.not_mem_nil,or_false] at r;subst r;rfl) (by unfold maxLen;omega) (by omega) l ?_;intro v9 w9 j i))
   go_meet;rw[E.out];exact g.out.app i j
 case rest =>
 obtain⟨v6,b9,a2⟩:∃ v,v=u4/\Hid (TSt w wc w.heap.size A #[int i64 x.kind,.string x.own,int i64 x.name,.slice a x.lgn c,int i64 x.pe,int i64 x.len,int i64 x.hei,int i64 x.cl,.bool x.all,int i64 x.be,int i64 x.unt,int i64 x.now] #[.bool (qr k),.bool (qM k),int i64 (qx k),.bool (qp k),.bool (qs k),.bool (Qg k),.bool (Zc k)] v (zcv x)):=⟨_,rfl,hcut.out⟩;subst b9;clear hcut t;go_wp2;go_ret;exact⟨_,rfl,a2.out.own,a2.out.bel⟩
noncomputable def ziv (x:OpD):Bool:=by classical exact decide (qn x)
noncomputable def zbj (x:OpD):ByteArray:=if ziv x=true then opT x else ⟨#[]⟩
theorem zfk (x:OpD):ziv x=true↔qn x:=by classical exact decide_eq_true_iff
theorem zau {x:OpD}(h:¬ qn x):zbj x=⟨#[]⟩/\ziv x=false:=by
 have a:ziv x=false:=Bool.eq_false_iff.2 (fun e=>h ((zfk x).1 e))
 exact⟨by unfold zbj;rw[if_neg (by rw[a];decide)],a⟩
theorem zav {x:OpD}(h:qn x):zbj x=opT x/\ziv x=true:=by
 have a:ziv x=true:=(zfk x).2 h;exact⟨by unfold zbj;rw[if_pos a],a⟩
theorem zbD {x:OpD}(h:qn x):∀ p,p ∈ zcv x->p.size<=1000:=by
 obtain⟨k,j⟩:∃ k,k=x.kind.toNat:=⟨_,rfl⟩;have f:∀ (b:Bool) (q p:ByteArray),p ∈ opt b q->b=true/\p=q:=by
  intro b q p d;unfold opt at d
  cases b with
  | false=>simp at d
  | true=>simp at d;exact⟨rfl,d⟩
 intro p d;unfold zcv zcg zbX zbW zcf zbV zcJ at d;rw[← j] at d;simp only[List.mem_append,List.mem_singleton] at d
 rcases d with((((((d|d)|d)|d)|d)|d)|d)
 ·rw[d];have:=zet k;omega
 ·obtain⟨q,rfl⟩:=f _ _ _ d
  have g:=rng1 h j.symm q;have:=qh (n:=x.name) (by omega) (by omega)
  omega
 ·obtain⟨q,rfl⟩:=f _ _ _ d
  have g:=h.1.2.1;unfold qO at g
  split at g
  ·have:=g.2.1;omega
  ·omega
 ·obtain⟨q,rfl⟩:=f _ _ _ d
  have g:=rng3 h j.symm q;unfold ZB;have m:∀ p,p ∈ (List.range x.lgn).map (fun i=>qf (x.lg i))->p.size<=100:=fun p d=>by
   obtain⟨i,t,rfl⟩:=List.mem_map.1 d;have r:=h.2 i (by simpa using t)
   unfold In at r;exact qh (by omega) (by omega)
  have o:∀ (l:List ByteArray),l.length<=3->(∀ p,p ∈ l->p.size<=100)->(qD coT l).size<=500:=by
   intro l hl d
   match l,hl,d with
   | [],_,_=>exact Nat.zero_le _
   | [a],_,d=>rw[ZH];have:=d a (by simp);omega
   | [a,b],_,d =>
    have e:qD coT [a,b]=qD coT [a]++(coT++b):=ZR coT b (l:=[a]) (by simp)
    rw[e,ZH,ByteArray.size_append,ByteArray.size_append];have g:=d a (by simp)
    have m:=d b (by simp)
    show _+(1+_)<=500
    omega
   | [a,b,c],_,d =>
    have s:qD coT [a,b]=qD coT [a]++(coT++b):=ZR coT b (l:=[a]) (by simp)
    have e:qD coT [a,b,c]=qD coT [a,b]++(coT++c):=ZR coT c (l:=[a,b]) (by simp)
    rw[e,s,ZH,ByteArray.size_append,ByteArray.size_append,ByteArray.size_append,ByteArray.size_append];have g:=d a (by simp)
    have m:=d b (by simp)
    have r:=d c (by simp)
    show _+(1+_)+(1+_)<=500
    omega
  have:=o _ (by simp;omega) m
  omega
 ·obtain⟨q,rfl⟩:=f _ _ _ d
  have g:=rng4 h j.symm q;generalize x.p=p at g;unfold qI Q3 zbH In at g;have s1:=qh (n:=p.pe) (by omega) (by omega)
  have s2:=qh (n:=p.len) (by omega) (by omega)
  have s3:=qh (n:=p.hei) (by omega) (by omega)
  have s4:=qh (n:=p.cl) (by omega) (by omega)
  have s5:=qh (n:=p.be) (by omega) (by omega)
  have c1:(zaS p).size<=300:=by
   unfold zaS
   split
   ·exact Nat.zero_le _
   ·rw[ByteArray.size_append,ByteArray.size_append,ByteArray.size_append]
    show 1+((qf p.len).size+1+(qf p.hei).size)<=300
    omega
  have c2:(cabT p).size<=300:=by
   unfold cabT
   split
   ·exact Nat.zero_le _
   ·rw[ByteArray.size_append]
    show 1+(qf p.cl).size<=300
    omega
  have c3:(zhN p).size<=300:=by
   unfold zhN
   split
   ·exact Nat.zero_le _
   ·rw[ByteArray.size_append]
    show 1+(qf p.be).size<=300
    omega
  unfold qC
  split
  ·rw[ByteArray.size_append];omega
  ·rw[ByteArray.size_append,ByteArray.size_append,ByteArray.size_append];omega
 ·obtain⟨q,rfl⟩:=f _ _ _ d
  have g:=rng5 h j.symm q;have:=qh (n:=x.unt) (by omega) (by omega)
  omega
 ·obtain⟨q,rfl⟩:=f _ _ _ d
  have g:=rng6 h j.symm q;have:=qh (n:=x.now) (by omega) (by omega)
  omega
theorem ziw {x:OpD}{k:Nat}(h:qn x)(a:x.kind.toNat=k)(b:decide (0<qx k)=true):(ZB x.lgn x.lg).size<=1000:=by
 refine zbD h _ ?_;unfold zcv zcg zbX zbW opt;rw[a,b];simp
theorem zhp {x:OpD}{k:Nat}(h:qn x)(a:x.kind.toNat=k)(b:qp k=true):(qC x.p).size<=1000:=by
 refine zbD h _ ?_;unfold zcv zcg zbX opt;rw[a,b];simp
theorem zgo {x:OpD}(h:qn x):(opT x).size<=7007:=by
 have h1:=zbU spT (by show 1<=1;omega) (zcv x) (zbD h)
 have h2:=len_P6 x;unfold opT
 omega
theorem zcK (cs:List Value)(x:OpD)(w:World)(V:x.own.size<=1000000000000000)(h:OpD.Is w cs x)(hn:x.lgn<=1000000000)(P:Ze w)(O:Qb w)(Q:Qc w) :
  Calls Tryz.prog 5 #[.agg cs.toArray] w fun e w'=>e=.returned (.tuple #[.string (zbj x),.bool (ziv x)])/\Below w.heap.size w w':=by
 have S:=hI h;obtain⟨a,b,rfl,p,_⟩:=h;have o:=hI p;have t:Hid (Ze w/\Qb w/\Qc w):=⟨P,O,Q⟩;have d:Below w.heap.size w (w.alloc (.cells #[int i64 x.kind,.string x.own,int i64 x.name,.slice a x.lgn b,int i64 x.pe,int i64 x.len,int i64 x.hei,int i64 x.cl,.bool x.all,int i64 x.be,int i64 x.unt,int i64 x.now] 27)):=zr bZ _;have u:=heap_alloc_new w (.cells #[int i64 x.kind,.string x.own,int i64 x.name,.slice a x.lgn b,int i64 x.pe,int i64 x.len,int i64 x.hei,int i64 x.cl,.bool x.all,int i64 x.be,int i64 x.unt,int i64 x.now] 27);clear p P O Q;go_enter Tryz.func5,Tryz.ntmps5;go_upto_region 1 with fail;generalize w.alloc (.cells #[int i64 x.kind,.string x.own,int i64 x.name,.slice a x.lgn b,int i64 x.pe,int i64 x.len,int i64 x.hei,int i64 x.cl,.bool x.all,int i64 x.be,int i64 x.unt,int i64 x.now] 27)=W at d u ⊢;obtain⟨E,F,G,H,I,J,K,L,M,N,m,n⟩:=ce12 u;go_wp2_with fail;obtain⟨q,D⟩:∃ q,q=decide (Qz x):=⟨_,rfl⟩;have y:Hid (q=true↔Qz x):=by show q=true↔Qz x;rw[D,decide_eq_true_eq]
 have A:=zit [int i64 x.kind,.string x.own,int i64 x.name,.slice a x.lgn b,int i64 x.pe,int i64 x.len,int i64 x.hei,int i64 x.cl,.bool x.all,int i64 x.be,int i64 x.unt,int i64 x.now] x W V (S.out.below d) (t.out.2.1.below d);rw[← D] at A;clear D;refine A.mono ?_;clear A;rintro e w2 ⟨rfl,k⟩;have b2:=zc u k;have g:=zj d k;clear E F G H I J K L M N m n u d k
 cases q with
 | false =>
  have f:¬ qn x:=fun h=>by have:=y.out.2 h.1;cases this
  have i:=hI (zau f);clear f;go_wp2;exact bodyPost_ret (v:=.tuple #[.string ⟨#[]⟩,.bool false]) (by simp[results,Tryz.results5,go_sem]) rfl ⟨by rw[i.out.1,i.out.2],g⟩
 | true =>
  have X:=za b2 3 _ rfl;go_wp2_with fail;refine(zdQ a x.lgn b x.lg _ hn (o.out.below g)).mono ?_;rintro e w3 ⟨⟨r,rfl,R⟩,l⟩;have b3:=zc b2 l;have c:=zj g l;have j:=hI R;clear b2 g l X R
  cases r with
  | false =>
   have f:¬ qn x:=fun h=>by have:=j.out.2 h.2;cases this
   have i:=hI (zau f);clear f;go_wp2;exact bodyPost_ret (v:=.tuple #[.string ⟨#[]⟩,.bool false]) (by simp[results,Tryz.results5,go_sem]) rfl ⟨by rw[i.out.1,i.out.2],c⟩
  | true =>
   have z:Hid (qn x):=⟨(by first|exact y.out.1 rfl|exact y.out.1 trivial),(by first|exact j.out.1 rfl|exact j.out.1 trivial)⟩
   have i:=hI (zav z.out);obtain⟨E,F,G,H,I,J,K,L,M,N,m,n⟩:=ce12 b3;go_wp2_with fail;refine(ziu x a b _ z.out (o.out.below c) (t.out.1.below c) (t.out.2.1.below c) (t.out.2.2.below c)).mono ?_;rintro e w4 ⟨v,rfl,s,B⟩;have T:=hI s;clear E F G H I J K L M N m n s;go_wp2_with fail;refine(zhL spT (zcv x) v _ _ T.out (by have:=len_P6 x;omega) (by have U:=zgo z.out;unfold opT at U;omega)).mono ?_
   rintro e w5 ⟨rfl,C⟩;go_wp2;exact bodyPost_ret (v:=.tuple #[.string (opT x),.bool true]) (by simp[results,Tryz.results5,go_sem,opT]) rfl ⟨by rw[i.out.1,i.out.2],zj (zj c B) C⟩
end Go.Proofs.YtfallpinmhbemaaGreatDoor
