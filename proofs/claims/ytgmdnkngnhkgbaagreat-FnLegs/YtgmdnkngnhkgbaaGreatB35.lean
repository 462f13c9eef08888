import Derived.Test.YtgmdnkngnhkgbaaGreatB32
namespace Go.Proofs.YtgmdnkngnhkgbaaGreat
open Go.RowKit
open Go.Value (int)
open Go.IntKind (i64)
set_option maxHeartbeats 64000000
set_option maxRecDepth 1000000
def zbb (p:zP)(n:Nat)(S:Nat->qW)(len hei:Int)(r:Int):Prop :=
 (∃ k:Nat,r=(k:Int)/\n≠60/\Qk p (Zy p S n) len hei k)∨(r=-1/\(n=60∨∀ k,¬ Qk p (Zy p S n) len hei k))
theorem zfZ (y z:Option Addr)(m N n c:Nat)(p:zP)(S:Nat->qW)(len hei:Int)(w:World)(hl:p.n=m)(x:zaf p n S)(L:zT w y p)(M:qp w z n S) :
  Calls Tryz.prog 126 #[.slice y m N,.slice z n c,int i64 len,int i64 hei] w fun e w'=>(∃ r:Int,e=.returned (int i64 r)/\zbb p n S len hei r)/\Below w.heap.size w w':=by
 have u:=hI hl;have G:=hI x;have H:=hI L;have P:=hI M;have T:m<=4:=by rw[← hl];exact x.1.1
 have s:n<=60:=x.2.1;clear hl x L M
 by_cases h60:n=60
 ·have A:(n == 60)=true:=by simpa using h60
  have B:((n:Int) == 60)=true:=by simp;omega
  have o:=hI h60;clear h60;go_enter Tryz.func126,Tryz.ntmps126;go_wp2;go_ret;exact⟨⟨_,rfl,.inr ⟨rfl,.inl o.out⟩⟩,bZ⟩
 ·have A:(n == 60)=false:=by simpa using h60
  have B:((n:Int) == 60)=false:=by simp;omega
  have o:=hI h60;clear h60;go_enter Tryz.func126,Tryz.ntmps126;go_wp2_with fail;refine(zdM y z m N n c p S _ u.out G.out.1 s G.out.lens H.out P.out).mono ?_;rintro e F ⟨⟨v,rfl,d⟩,f⟩;obtain⟨aw,cw,rfl,_⟩:=zr d;have O:=hI (own_ints d);clear d;go_wp2;go_loopw [10,11,20] (fun _ _ i wr=>∃ k:Nat,k<=m/\i=int i64 k/\(∀ j:Nat,j<k->¬ (hei<=p.B j/\len<=Zy p S n j))/\Below F.heap.size F wr) (fun _ _ i _=>m - (intOf i).toNat)
  case atStart=>exact⟨0,Nat.zero_le _,rfl,fun j K=>by omega,bZ⟩
  case round =>
   obtain⟨k,hk,rfl,g,a⟩:=hrel;have t:=hI g;clear g
   by_cases hlt:k<m
   ·obtain⟨b,off,rfl,C,I⟩:=H.out k (by rw[u.out];exact hlt)
    have J:=World.block_lt_of_cell? w _ C;have c1:=((zf f a).cell (p:=⟨b,off+k*2,none⟩) J).trans C;have c2:=((zf f a).cell (p:=⟨b,off+k*2+1,none⟩) J).trans I;obtain⟨b3,l,rfl,D⟩:=O.out k hlt;have E:=World.block_lt_of_cell? F _ D;have c3:(wr.alloc (.cells #[int i64 (p.A k),int i64 (p.B k)] 88)).cell? ⟨b3,l+k,none⟩=some (int i64 (Zy p S n k)):=((zl a _).cell (p:=⟨b3,l+k,none⟩) E).trans D;have i1:(0:Int)<=(k:Int):=by omega
    have i2:(k:Int)<(m:Int):=by omega
    clear C I D
    by_cases g1:hei<=p.B k
    ·have Q:decide (hei<=p.B k)=true:=decide_eq_true g1
     by_cases g2:len<=Zy p S n k
     ·have R:decide (len<=Zy p S n k)=true:=decide_eq_true g2
      have q:Hid (Qk p (Zy p S n) len hei k):=⟨by rw[u.out];exact hlt,⟨g1,g2⟩,t.out⟩
      clear g1 g2;go_wp2;go_ret;exact⟨⟨_,rfl,.inl ⟨k,rfl,o.out,q.out⟩⟩,zf f (zl a _)⟩
     ·have R:decide (len<=Zy p S n k)=false:=decide_eq_false g2
      have q:Hid (¬ (hei<=p.B k/\len<=Zy p S n k)):=fun h=>g2 h.2
      clear g1 g2;go_wp2;go_roundw
      case rel=>exact⟨k+1,by omega,by go_num,fun j K=>by
       by_cases e:j=k
       ·subst e;exact q.out
       ·exact t.out j (by omega),zl a _⟩
      case measure=>simp[intOf];omega
    ·have Q:decide (hei<=p.B k)=false:=decide_eq_false g1
     have q:Hid (¬ (hei<=p.B k/\len<=Zy p S n k)):=fun h=>g1 h.1
     clear g1;go_wp2;go_roundw
     case rel=>exact⟨k+1,by omega,by go_num,fun j K=>by
      by_cases e:j=k
      ·subst e;exact q.out
      ·exact t.out j (by omega),zl a _⟩
     case measure=>simp[intOf];omega
   ·obtain rfl:k=m:=by omega
    go_wp2;go_ret;exact⟨⟨_,rfl,.inr ⟨rfl,.inr (fun j h=>t.out j (by have:=h.1;rw[u.out] at this;exact this) h.2.1)⟩⟩,zf f a⟩
def Qg (r k:Nat):Nat:=if k<=r then k else k - 1
theorem zer (H:Option Addr)(n c r:Nat)(S:Nat->qW)(x:Int)(w:World)(hn:n<=60)(hr:r<n)(N:Zb S r=x)(L:∀ j,j<n->j≠r->Zb S j≠x)(O:qp w H n S) :
  Calls Tryz.prog 125 #[.slice H n c,int i64 x] w fun e w'=>(∃ v,e=.returned v/\w'.ownsRow w.heap.size 84 4 v (n - 1) (zN (Zi S r) (n - 1)))/\Below w.heap.size w w':=by
 obtain⟨X,Y,C,D,E⟩:=info_parts Tryz.infoStay;have R:=hI O;have G:=hI N;have Q:=hI L;clear O N L;go_enter Tryz.func125,Tryz.ntmps125;go_wp2;go_loopw [5,7,10] (fun v _ i wr=>∃ k:Nat,k<=n/\i=int i64 k/\wr.ownsRow w.heap.size 84 4 v (Qg r k) (zN (Zi S r) (Qg r k))/\Below w.heap.size w wr) (fun _ _ i _=>n - (intOf i).toNat)
 case atStart=>exact⟨0,Nat.zero_le _,rfl,⟨rfl,.inl ⟨rfl,rfl⟩⟩,bZ⟩
 case round =>
  obtain⟨k,hk,rfl,d,a⟩:=hrel
  by_cases hlt:k<n
  ·obtain⟨b,off,rfl,y,I,J,K⟩:=R.out k hlt
   have o:=World.block_lt_of_cell? w _ y;have c0:=(a.cell (p:=⟨b,off+k*4,none⟩) o).trans y;have c1:=(a.cell (p:=⟨b,off+k*4+1,none⟩) o).trans I;have c2:=(a.cell (p:=⟨b,off+k*4+2,none⟩) o).trans J;have c3:=(a.cell (p:=⟨b,off+k*4+3,none⟩) o).trans K;clear y I J K
   by_cases he:k=r
   ·have T:((S k).who == x)=true:=by rw[he];simpa [Zb] using G.out
    have U:((S k).who != x)=false:=by rw[he];simpa [Zb] using G.out
    have l:Hid (Qg r (k+1)=Qg r k):=by
     have m:Qg r (k+1)=k+1 - 1:=if_neg (by omega)
     have f:Qg r k=k:=if_pos (by omega)
     show Qg r (k+1)=Qg r k
     omega
    clear he;go_wp2;go_roundw
    case rel=>exact⟨k+1,by omega,by go_num,by rw[l.out];exact zp (zl bZ _) d,zl a _⟩
    case measure=>simp[intOf];omega
   ·have g:=Q.out k hlt he
    have T:((S k).who == x)=false:=by simpa [Zb] using g
    have U:((S k).who != x)=true:=by simpa [Zb] using g
    have l:Hid (Qg r (k+1)=Qg r k+1/\Zi S r (Qg r k)=S k/\Qg r k<=60):=by
     by_cases c:k<=r
     ·have m:Qg r (k+1)=k+1:=if_pos (by omega)
      have f:Qg r k=k:=if_pos c;have s:Zi S r k=S k:=if_pos (by omega)
      rw[m,f,s];exact⟨rfl,rfl,by omega⟩
     ·have m:Qg r (k+1)=k+1 - 1:=if_neg (by omega)
      have f:Qg r k=k - 1:=if_neg c;have s:Zi S r (k - 1)=S (k - 1+1):=if_neg (by omega)
      rw[m,f,s];exact⟨by omega,by rw[show k - 1+1=k by omega],by omega⟩
    clear he g;have W:=a.size;have z:=l.out.2.2;generalize hq:Qg r k=q at d z;have F:=hI hq;clear hq;have P:Hid (∀ t,(some ⟨wr.heap.size+1,0,none⟩:Option Addr)=some t->∀ j u,[Value.int .i64 (S k).who,int i64 (S k).ln,int i64 (S k).len,int i64 (S k).hei][j]?=some u->((wr.alloc (.cells #[int i64 (S k).who,int i64 (S k).ln,int i64 (S k).len,int i64 (S k).hei] 84)).alloc (.cells #[int i64 (S k).who,int i64 (S k).ln,int i64 (S k).len,int i64 (S k).hei] 84)).cell? (t.add j)=some u):=by
     intro t e
     cases e
     exact World.news_of_block (by simpa using heap_alloc_new (wr.alloc _) _)
    go_wp2_with (first|(at_builtin;refine zu _ (by rfl) (.tmp 18) (.tmp 20) 51 (by rfl) w.heap.size 84 X (.agg #[int i64 0,int i64 0,int i64 0,int i64 0]) 4 32 Tryz.underlying51 Y C D E rfl (by decide) _ q (zN (Zi S r) q) (by rfl) ((d.alloc _).alloc _) (some ⟨wr.heap.size+1,0,none⟩) 1 1 [int i64 (S k).who,int i64 (S k).ln,int i64 (S k).len,int i64 (S k).hei] (by rfl) (fun h=>(by cases h)) (by rfl) P.out (by intro u M;simp at M;rcases M with rfl|rfl|rfl|rfl <;> rfl) (by unfold maxLen;omega) (by omega) (by simp;omega) ?_;intro v' w3 B A))
    go_roundw
    case rel =>
     refine⟨k+1,by omega,by go_num,?_,(zl (zl a _) _).grown A (by simp;omega) (fun j V=>(d.lt j V).1)⟩
     obtain⟨m,f,_⟩:=l.out;rw[m,F.out,Qt];rw[F.out] at f;rw[f];exact B
    case measure=>simp[intOf];omega
  ·obtain rfl:k=n:=by omega
   have l:Hid (Qg r k=k - 1):=if_neg (by omega)
   rw[l.out] at d;go_wp2;go_ret;exact⟨⟨_,rfl,d⟩,a⟩
def WayIs (N:Nat)(S:Nat->Sail)(G:Nat->Int)(w:World)(B k:Nat):Prop :=
 ∃ la lc ls pl t,w.heap[B]?=some (.cells #[.slice la k lc,.string pl,int i64 t] 157 (0,0))/\ls.length=k/\zX w la k (getI ls)/\(la=none->k=0/\lc=0) /\
  (0<k->pl=(S (zH S (G (k - 1)) N)).dst/\t=(S (zH S (G (k - 1)) N)).arr)
theorem Qc (ao bo:Option Addr)(N n c c':Nat)(S:Nat->Sail)(G:Nat->Int)(w:World)(hN:N<=1048576)(hn:n<=1048576)(hs:ShortAll N S 1048576)(hx:SailsAt w ao N S)(hy:zX w bo n G) :
  Calls Tryz.prog 81 #[.slice ao N c,.slice bo n c'] w fun e w'=>SaysIf (Z2 N S/\Qz N S n G) e/\Below w.heap.size w w':=by
 have HS:Hid (ShortAll N S 1048576):=hs;clear hs;go_enter Tryz.func81,Tryz.ntmps81;go_wp2_with fail;refine(zcY ao N c S _ hN HS.out hx).mono ?_;rintro e B ⟨⟨b1,rfl,I⟩,C⟩
 cases b1 with
 | false =>
  have HN:Hid (¬ Z2 N S):=fun h=>by have:=I.2 h;cases this
  clear I;go_wp2;go_ret;exact⟨zk (fun h=>HN.out h.1),C⟩
 | true =>
  have HT:Hid (Z2 N S):=I.1 rfl;clear I
  by_cases g3:In (n:Int) 1 3
  case neg =>
   have d3:decide (In (n:Int) 1 3)=false:=decide_eq_false g3;have HN:Hid (¬ Qz N S n G):=fun h=>g3 ⟨by have:=h.1;omega,by have:=h.2.1;omega⟩
   clear g3;go_wp2_with (first|(go_at_call 74;refine sC (zM _ _ _ _) ?_))
   go_ret;exact⟨zk (fun h=>HN.out h.2),C⟩
  have d3:decide (In (n:Int) 1 3)=true:=decide_eq_true g3;have H3:Hid (1<=n/\n<=3):=⟨by have:=g3.1;omega,by have:=g3.2;omega⟩
  have b8:n<=3:=H3.out.2;clear g3;go_wp2_with (first|(go_at_call 74;refine sC (zM _ _ _ _) ?_))
  have a2:Below w.heap.size w (B.alloc (.cells #[.slice none 0 0,.string ⟨#[]⟩,int i64 0] 157)):=zl C _;have M:=heap_alloc_new B (.cells #[.slice none 0 0,.string ⟨#[]⟩,int i64 0] 157);have hB:w.heap.size<=B.heap.size:=C.size;go_loopw [6,7,8,9,21] (fun _ _ _ _ i wr=>∃ k:Nat,k<=n/\i=int i64 k/\(∀ j,j<k->zfQ N S G j)/\WayIs N S G wr B.heap.size k/\Below w.heap.size w wr) (fun _ _ _ _ i _=>n - (intOf i).toNat)
  case atStart=>exact⟨0,Nat.zero_le _,rfl,fun j hj=>by omega,⟨none,0,[],⟨#[]⟩,0,M,rfl,fun k hk=>by omega,fun _=>⟨rfl,rfl⟩,fun h=>by omega⟩,a2⟩
  case round =>
   clear a2 M d3 C;obtain⟨k,hk,rfl,L,P,s⟩:=hrel;have HA:Hid (∀ j,j<k->zfQ N S G j):=L;have HW:Hid (WayIs N S G wr B.heap.size k):=P;clear L P
   by_cases hlt:k<n
   ·obtain⟨qb,a7,rfl,hq⟩:=hy k hlt
    have b7:=World.block_lt_of_cell? w _ hq;have p0:=(s.cell (p:=⟨qb,a7+k,none⟩) b7).trans hq;clear hq;go_wp2_with fail;refine(QG ao N c S (G k) _ hN (hx.below s)).mono ?_;rintro e z ⟨hr,H⟩;obtain⟨la,lc,ls,Z,t,l,a5,q,b6,O⟩:=HW.out;have l:=zb l H;have q:=q.below H;have f:=zf s H;have R:Hid (ls.length=k):=a5;have a0:Hid (0<k->Z=(S (zH S (G (k - 1)) N)).dst/\t=(S (zH S (G (k - 1)) N)).arr):=O;clear a5 O H s p0 HW
    rcases hr with⟨W,rfl⟩|⟨W,rfl⟩
    ·obtain⟨x,X⟩:∃ x,x=zH S (G k) N:=⟨_,rfl⟩
     rw[← X] at W ⊢;have HX:Hid (x=zH S (G k) N):=X;clear X;have x1:(x:Int)<(N:Int):=by omega
     have x0:(0:Int)<=(x:Int):=by omega
     obtain⟨m,b,c1,c2,b9,c0,rfl,h0,E,K,h3,h4,h5,h6,h7,_,_,_,_⟩:=hx x W;have r:=World.block_lt_of_cell? w _ E;have d:m<z.heap.size:=Nat.lt_of_lt_of_le r f.size;have s0:=(f.cell (p:=⟨m,b+x*8,none⟩) r).trans h0;have s1:=(f.cell (p:=⟨m,b+x*8+1,none⟩) r).trans E;have s2:=(f.cell (p:=⟨m,b+x*8+2,none⟩) r).trans K;have s3:=(f.cell (p:=⟨m,b+x*8+3,none⟩) r).trans h3;have s4:=(f.cell (p:=⟨m,b+x*8+4,none⟩) r).trans h4;have s5:=(f.cell (p:=⟨m,b+x*8+5,none⟩) r).trans h5;have s6:=(f.cell (p:=⟨m,b+x*8+6,none⟩) r).trans h6;have s7:=(f.cell (p:=⟨m,b+x*8+7,none⟩) r).trans h7;clear h0 E K h3 h4 h5 h6 h7;have U:B.heap.size<z.heap.size:=zQ l;have g0:∀ g:zv z,g.val.cell? ⟨B.heap.size,0,none⟩=some (.slice la k lc):=fun g=>(g.bel.cell U).trans (za l 0 _ rfl)
     have g1:∀ g:zv z,g.val.cell? ⟨B.heap.size,1,none⟩=some (.string Z):=fun g=>(g.bel.cell U).trans (za l 1 _ rfl)
     have g2:∀ g:zv z,g.val.cell? ⟨B.heap.size,2,none⟩=some (int i64 t):=fun g=>(g.bel.cell U).trans (za l 2 _ rfl)
     have r0:∀ g:zv z,g.val.cell? ⟨m,b+x*8,none⟩=_:=fun g=>(g.bel.cell d).trans s0
     have r1:∀ g:zv z,g.val.cell? ⟨m,b+x*8+1,none⟩=_:=fun g=>(g.bel.cell d).trans s1
     have r2:∀ g:zv z,g.val.cell? ⟨m,b+x*8+2,none⟩=_:=fun g=>(g.bel.cell d).trans s2
     have r3:∀ g:zv z,g.val.cell? ⟨m,b+x*8+3,none⟩=_:=fun g=>(g.bel.cell d).trans s3
     have r4:∀ g:zv z,g.val.cell? ⟨m,b+x*8+4,none⟩=_:=fun g=>(g.bel.cell d).trans s4
     have r5:∀ g:zv z,g.val.cell? ⟨m,b+x*8+5,none⟩=_:=fun g=>(g.bel.cell d).trans s5
     have r6:∀ g:zv z,g.val.cell? ⟨m,b+x*8+6,none⟩=_:=fun g=>(g.bel.cell d).trans s6
     have r7:∀ g:zv z,g.val.cell? ⟨m,b+x*8+7,none⟩=_:=fun g=>(g.bel.cell d).trans s7
     go_upto_region 8 with fail;go_cut [8,21,46] (fun j i v wx=>j=int i64 x/\i=int i64 k/\Tells (zfQ N S G k) v/\Below z.heap.size z wx)
     case first =>
      by_cases k0:k=0
      ·subst k0
       refine zg (by kernel_rfl) (by kernel_rfl) ?_
       repeat(first|go_big_quiet_skip|(go_big_quiet_want;go_big_quiet_op;go_big_quiet_on))
       refine wpQuiet_nil ?_;rintro _ ⟨g,rfl⟩;go_wp2;go_meet;exact⟨rfl,rfl,tells_good ⟨by rw[← HX.out];exact W,fun h=>by omega⟩,g.bel⟩
      ·have d0:decide (0<k)=true:=by simp;omega
       by_cases A:zdP Z t (S x).fr (S x).dep=true
       ·refine zg (by kernel_rfl) (by kernel_rfl) ?_
        repeat(first|go_big_quiet_skip|(go_big_quiet_want;go_big_quiet_op;first|go_big_quiet_on|(apply Exists.intro;refine⟨fun g=>?_,?_⟩;(focus(go_at_call 108;refine zh (v:=.bool true) ((zdQ _ _ _ _ _ _ _ _ _ _ _ _ _ _ _ _ _ _).mono ?_);rintro e w4 ⟨rfl,V⟩;exact⟨by rw[A],V⟩));go_big_quiet_on)))
        refine wpQuiet_nil ?_;rintro _ ⟨g,rfl⟩;go_wp2;go_meet;exact⟨rfl,rfl,tells_good ⟨by rw[← HX.out];exact W,fun h=>by
         have E:=Q7.1 A;have K:=a0.out h;rw[← HX.out];exact⟨by rw[← K.1];exact E.1.symm,by rw[← K.2];exact E.2⟩⟩,g.bel⟩
       ·have A:=Bool.eq_false_iff.2 A
        refine zg (by kernel_rfl) (by kernel_rfl) ?_
        repeat(first|go_big_quiet_skip|(go_big_quiet_want;go_big_quiet_op;first|go_big_quiet_on|(apply Exists.intro;refine⟨fun g=>?_,?_⟩;(focus(go_at_call 108;refine zh (v:=.bool false) ((zdQ _ _ _ _ _ _ _ _ _ _ _ _ _ _ _ _ _ _).mono ?_);rintro e w4 ⟨rfl,V⟩;exact⟨by rw[A],V⟩));go_big_quiet_on)))
        refine wpQuiet_nil ?_;rintro _ ⟨g,rfl⟩;go_wp2;go_meet;exact⟨rfl,rfl,tells_bad (fun h=>by
         have E:=h.2 (by omega)
         have K:=a0.out (by omega)
         rw[← HX.out] at E;have h3:=Q7.2 (show(S x).fr=Z/\t<=(S x).dep from ⟨by rw[K.1];exact E.1.symm,by rw[K.2];exact E.2⟩)
         rw[A] at h3;cases h3),g.bel⟩
     case rest =>
      clear g0 g1 g2 r0 r1 r2 r3 r4 r5 r6 r7;obtain⟨rfl,rfl,⟨tb,rfl,ht⟩,o⟩:=hcut;have T:Hid (tb=false↔zfQ N S G k):=ht;clear ht;obtain⟨w3,b5⟩:∃ y,y=wc:=⟨_,rfl⟩;subst b5;have D:=zf f o
      cases tb with
      | true =>
       clear s0 s1 s2 s3 s4 s5 s6 s7;go_wp2;go_ret;exact⟨zk (fun h=>by have:=T.out.2 (h.2.2.2 k hlt);cases this),D⟩
      | false =>
       have HK:Hid (zfQ N S G k):=T.out.1 rfl;clear T;have u:=zb l o;have s0:=(o.cell (p:=⟨m,b+x*8,none⟩) d).trans s0;have s1:=(o.cell (p:=⟨m,b+x*8+1,none⟩) d).trans s1;have s2:=(o.cell (p:=⟨m,b+x*8+2,none⟩) d).trans s2;have s3:=(o.cell (p:=⟨m,b+x*8+3,none⟩) d).trans s3;have s4:=(o.cell (p:=⟨m,b+x*8+4,none⟩) d).trans s4;have s5:=(o.cell (p:=⟨m,b+x*8+5,none⟩) d).trans s5;have s6:=(o.cell (p:=⟨m,b+x*8+6,none⟩) d).trans s6;have s7:=(o.cell (p:=⟨m,b+x*8+7,none⟩) d).trans s7;obtain⟨b0,b1,b2⟩:=ce3 u;have J:=(q.below o).below (Below.refl _ w3).drew;have F:Hid (w3.drew.heap[B.heap.size]?=some (.cells #[.slice la k lc,.string Z,int i64 t] 157 (0,0))):=u;clear l u q;go_upto_region 10 with fail;go_region_with (first|(go_at_call 109;refine Calls.mono (with_any la k lc ls Z t _ _ _ _ _ _ _ _ _ _ _ _ _ R.out ?_ J b6) ?_;(focus omega);rintro e w5 ⟨a1,c5,rfl,a6,a3⟩;have Y:=zb F.out a3;have o0:=za Y 0 _ rfl;have o1:=za Y 1 _ rfl;have o2:=za Y 2 _ rfl;have f0:=ze Y 0;have f1:=ze Y 1;have f2:=ze Y 2))
       all_goals
        have a8:Hid _:=a6;clear a6;go_wp2;go_roundw
        case rel =>
         refine⟨k+1,by omega,by go_num,fun j hj=>?_,?_,?_⟩
         ·by_cases e:j=k
          ·subst e;exact HK.out
          ·exact HA.out j (by omega)
         ·have Q:=own_set (own_set (own_set a8.out (a:=⟨B.heap.size,0,none⟩) (zQ F.out) (.slice a1 (k+1) c5)) (a:=⟨B.heap.size,1,none⟩) (zQ F.out) (.string (S x).dst)) (a:=⟨B.heap.size,2,none⟩) (zQ F.out) (int i64 (S x).arr)
          obtain⟨_,_,e5,_,_,a9⟩:=zr Q;simp only[Value.slice.injEq,true_and] at e5;obtain⟨rfl,rfl⟩:=e5;exact⟨a1,c5,ls++[(S x).id],(S x).dst,(S x).arr,zt (zt (zt Y 0 _) 1 _) 2 _,by rw[List.length_append,R.out];rfl,own_legs (by rw[List.length_append,R.out];rfl) Q,fun h=>absurd (a9 h).1 (by omega),fun _=>by
           rw[Nat.add_sub_cancel,← HX.out];exact⟨rfl,rfl⟩⟩
         ·exact(((zf D.drew a3).setCell hB _).setCell hB _).setCell hB _
        case measure=>simp[intOf];omega
    ·have HF:Hid (zH S (G k) N=N):=W
     clear W;go_upto_region 8 with fail;refine zg (by kernel_rfl) (by kernel_rfl) ?_
     repeat(first|go_big_quiet_skip|(go_big_quiet_want;go_big_quiet_op;go_big_quiet_on))
     refine wpQuiet_nil ?_;rintro _ ⟨g,rfl⟩;go_wp2;go_ret;exact⟨zk (fun h=>by have:=(h.2.2.2 k hlt).1;have:=HF.out;omega),zf f g.bel⟩
   ·obtain rfl:k=n:=by omega
    go_wp2;go_ret;exact⟨zI ⟨HT.out,H3.out.1,H3.out.2,HA.out⟩,s⟩
theorem QH (x:Int)(w:World) :
  Calls Tryz.prog 84 #[int i64 x] w fun e w'=>e=.returned (.bool (decide (In x 0 10000)))/\w'=w:=by
 go_enter Tryz.func84,Tryz.ntmps84;go_wp2_with (first|(go_at_call 74;refine(zM _ _ _ _).mono ?_;rintro e w' ⟨rfl,rfl⟩))
 go_ret;exact⟨rfl,rfl⟩
theorem zaG (a b c:Bool)(w:World) :
  Calls Tryz.prog 83 #[.bool a,.bool b,.bool c] w fun e w'=>e=.returned (.bool (if a then b else c))/\w'=w:=by
 cases a with
 | true =>
  go_enter Tryz.func83,Tryz.ntmps83;go_wp2;go_ret;exact⟨rfl,rfl⟩
 | false =>
  go_enter Tryz.func83,Tryz.ntmps83;go_wp2;go_ret;exact⟨rfl,rfl⟩
def zfO (S:Nat->qi)(j:Nat):Int:=(S j).who
theorem zch (b:qi)(c:Option Addr)(d:Nat)(x:Int)(a:Nat)(w:World)(h:w.cell? ⟨a,0,none⟩=some (int i64 x)) :
  Calls Tryz.prog 79 #[.agg #[int i64 b.name,int i64 b.who,.string b.own,.slice c b.lgn d,int i64 b.pe,int i64 b.len,int i64 b.hei,int i64 b.cl,.bool b.all,int i64 b.be,int i64 b.state,int i64 b.unt,int i64 b.price],.pointer (some ⟨a,0,none⟩)] w fun e w'=>e=.returned (.bool (b.who == x))/\Below w.heap.size w w':=by
 have f:=World.block_lt_of_cell? w _ h;have g:¬ a=w.heap.size:=by have:a<w.heap.size:=f;omega
 go_enter Tryz.func79,Tryz.ntmps79;go_wp2;go_ret;exact⟨rfl,zl bZ _⟩
theorem zey (z:Option Addr)(n c:Nat)(S:Nat->qi)(x:Int)(t:Nat)(w:World)(hn:n<=1048576)(P:qK w z n S)(D:w.cell? ⟨t,0,none⟩=some (int i64 x)) :
  Calls Tryz.prog 106 #[.slice z n c,.func (.func 79) #[] #[.pointer (some ⟨t,0,none⟩)]] w fun e w'=>e=.returned (int i64 (qL (zfO S) x n))/\Below w.heap.size w w':=by
 have B:=World.block_lt_of_cell? w _ D;obtain⟨C,G,u⟩:=P;have H:Hid (RecsAt w z n 13 C):=G;have J:Hid (∀ k,k<n->qi.Is w (C k) (S k)):=u;clear G u;go_enter Tryz.func106,Tryz.ntmps106;go_wp2;go_loopw [5,8] (fun _ i wr=>∃ k:Nat,k<=n/\i=int i64 k/\(∀ j,j<k->zfO S j≠x)/\Below w.heap.size w wr) (fun _ i _=>n - (intOf i).toNat)
 case atStart=>exact⟨0,Nat.zero_le _,rfl,fun j O=>by omega,bZ⟩
 case round =>
  obtain⟨k,hk,rfl,o,a⟩:=hrel;have v:Hid (∀ j,j<k->zfO S j≠x):=o;clear o
  by_cases hlt2:k<n
  ·obtain⟨f,g,rfl,l⟩:=H.out k hlt2
   obtain⟨q,r,h,_,_⟩:=J.out k hlt2;obtain⟨b,A⟩:∃ b,b=S k:=⟨_,rfl⟩;rw[← A] at h;have E:Hid (b=S k):=A;have d:f<w.heap.size:=World.block_lt_of_cell? w _ (l 0 (by decide))
   have c0:wr.cell? ⟨f,g+k*13,none⟩=some (int i64 b.name):=(a.cell (p:=⟨f,g+k*13,none⟩) d).trans (by have:=l 0 (by decide);rw[h] at this;exact this)
   have c1:wr.cell? ⟨f,g+k*13+1,none⟩=some (int i64 b.who):=(a.cell (p:=⟨f,g+k*13+1,none⟩) d).trans (by have:=l 1 (by decide);rw[h] at this;exact this)
   have c2:wr.cell? ⟨f,g+k*13+2,none⟩=some (.string b.own):=(a.cell (p:=⟨f,g+k*13+2,none⟩) d).trans (by have:=l 2 (by decide);rw[h] at this;exact this)
   have c3:wr.cell? ⟨f,g+k*13+3,none⟩=some (.slice q b.lgn r):=(a.cell (p:=⟨f,g+k*13+3,none⟩) d).trans (by have:=l 3 (by decide);rw[h] at this;exact this)
   have c4:wr.cell? ⟨f,g+k*13+4,none⟩=some (int i64 b.pe):=(a.cell (p:=⟨f,g+k*13+4,none⟩) d).trans (by have:=l 4 (by decide);rw[h] at this;exact this)
   have c5:wr.cell? ⟨f,g+k*13+5,none⟩=some (int i64 b.len):=(a.cell (p:=⟨f,g+k*13+5,none⟩) d).trans (by have:=l 5 (by decide);rw[h] at this;exact this)
   have c6:wr.cell? ⟨f,g+k*13+6,none⟩=some (int i64 b.hei):=(a.cell (p:=⟨f,g+k*13+6,none⟩) d).trans (by have:=l 6 (by decide);rw[h] at this;exact this)
   have c7:wr.cell? ⟨f,g+k*13+7,none⟩=some (int i64 b.cl):=(a.cell (p:=⟨f,g+k*13+7,none⟩) d).trans (by have:=l 7 (by decide);rw[h] at this;exact this)
   have c8:wr.cell? ⟨f,g+k*13+8,none⟩=some (.bool b.all):=(a.cell (p:=⟨f,g+k*13+8,none⟩) d).trans (by have:=l 8 (by decide);rw[h] at this;exact this)
   have c9:wr.cell? ⟨f,g+k*13+9,none⟩=some (int i64 b.be):=(a.cell (p:=⟨f,g+k*13+9,none⟩) d).trans (by have:=l 9 (by decide);rw[h] at this;exact this)
   have K:wr.cell? ⟨f,g+k*13+10,none⟩=some (int i64 b.state):=(a.cell (p:=⟨f,g+k*13+10,none⟩) d).trans (by have:=l 10 (by decide);rw[h] at this;exact this)
   have L:wr.cell? ⟨f,g+k*13+11,none⟩=some (int i64 b.unt):=(a.cell (p:=⟨f,g+k*13+11,none⟩) d).trans (by have:=l 11 (by decide);rw[h] at this;exact this)
   have M:wr.cell? ⟨f,g+k*13+12,none⟩=some (int i64 b.price):=(a.cell (p:=⟨f,g+k*13+12,none⟩) d).trans (by have:=l 12 (by decide);rw[h] at this;exact this)
   have F:Hid (wr.cell? ⟨t,0,none⟩=some (int i64 x)):=(a.cell (p:=⟨t,0,none⟩) B).trans D;clear l h A D
   by_cases m:zfO S k=x
   ·have N:(b.who == x)=true:=by have m:=m;unfold zfO at m;rw[← E.out] at m;simpa using m
    have y:Hid (qL (zfO S) x n=k):=by
     have:ZC (zfO S) x n=k:=zbJ hlt2 m v.out;unfold qL Hid;rw[this,if_pos hlt2]
    clear m;go_wp2_with (first|(go_at_call 79;refine(zch b q r x t _ F.out).mono ?_;rintro e Q ⟨rfl,s⟩))
    go_ret;exact⟨by rw[y.out];rfl,zf a s⟩
   ·have N:(b.who == x)=false:=by have m:=m;unfold zfO at m;rw[← E.out] at m;simpa using m
    have I:Hid (zfO S k≠x):=m;clear m;go_wp2_with (first|(go_at_call 79;refine(zch b q r x t _ F.out).mono ?_;rintro e Q ⟨rfl,s⟩))
    go_roundw
    case rel=>exact⟨k+1,by omega,by go_num,fun j O=>by
     by_cases e:j=k
     ·subst e;exact I.out
     ·exact v.out j (by omega),zf a s⟩
    case measure=>simp[intOf];omega
  ·obtain rfl:k=n:=by omega
   have y:Hid (qL (zfO S) x k=-1):=QL (zaB v.out);go_wp2;go_ret;exact⟨by rw[y.out];rfl,a⟩
theorem zgl (f:Option Addr)(n c:Nat)(S:Nat->qi)(x:Int)(g:Nat)(w:World)(hn:n<=1048576)(l:qK w f n S)(k:w.cell? ⟨g,0,none⟩=some (int i64 x)) :
  Calls Tryz.prog 78 #[.slice f n c,.func (.func 79) #[] #[.pointer (some ⟨g,0,none⟩)]] w fun e w'=>SaysIf (Has (zfO S) n x) e/\Below w.heap.size w w':=by
 obtain⟨r,i⟩:∃ r,r=qL (zfO S) x n:=⟨_,rfl⟩;have d:Hid (r=qL (zfO S) x n):=i;clear i;go_enter Tryz.func78,Tryz.ntmps78;go_wp2_with fail;refine(zey f n c S x g _ hn l k).mono ?_;rw[← d.out];rintro e w1 ⟨rfl,a⟩
 by_cases h:Has (zfO S) n x
 ·have j:decide (0<=r)=true:=by rw[d.out];unfold qL;rw[if_pos ((zaA _ _ _).1 h)];simp
  have b:Hid (Has (zfO S) n x):=h;clear h;go_wp2;go_ret;exact⟨zI b.out,a⟩
 ·have j:decide (0<=r)=false:=by rw[d.out,QL h];rfl
  have b:Hid (¬ Has (zfO S) n x):=h;clear h;go_wp2;go_ret;exact⟨zk b.out,a⟩
theorem zbg (f:Option Addr)(n c:Nat)(S:Nat->qi)(x:Int)(w:World)(hn:n<=1048576)(s:qK w f n S) :
  Calls Tryz.prog 31 #[.slice f n c,int i64 x] w fun e w'=>SaysIf (In x 1 9999/\¬ Has (zfO S) n x) e/\Below w.heap.size w w':=by
 have a:Below w.heap.size w (w.alloc (.cells #[int i64 x] 3)):=zl bZ _;have p:Hid (qK (w.alloc (.cells #[int i64 x] 3)) f n S):=s.below a;have r:=za (heap_alloc_new w (.cells #[int i64 x] 3)) 0 _ rfl;have q:∀ (l:Fn) (first cap:Array Value) (w:World),(Instr.makeFunc l first cap).run Tryz.prog w=.ok (.func l first cap) w:=fun _ _ _ _=>rfl
 go_enter Tryz.func31,Tryz.ntmps31;go_wp2_with fail;obtain⟨t,i⟩:∃ t,t=decide (In x 1 9999):=⟨_,rfl⟩;refine(ZJ _ _).mono ?_;rw[← i];have g:Hid (t=true↔In x 1 9999):=by show t=true↔In x 1 9999;rw[i,decide_eq_true_eq]
 clear i;rintro e v ⟨rfl,j⟩;have j:=j.symm;subst j
 cases t with
 | false =>
  have b:Hid (¬ (In x 1 9999/\¬ Has (zfO S) n x)):=fun h=>by have:=g.out.2 h.1;cases this
  go_wp2;go_ret;exact⟨zk b.out,a⟩
 | true =>
  have o:Hid (In x 1 9999):=g.out.1 rfl;clear g;go_wp2_with fail;refine(zgl f n c S x _ _ hn p.out r).mono ?_;rintro e w1 ⟨⟨u,rfl,m⟩,d⟩;have k:Hid (u=true↔Has (zfO S) n x):=m;clear m
  cases u with
  | true =>
   have b:Hid (¬ (In x 1 9999/\¬ Has (zfO S) n x)):=fun h=>h.2 (k.out.1 rfl)
   go_wp2;go_ret;exact⟨zk b.out,zf a d⟩
  | false =>
   have b:Hid (In x 1 9999/\¬ Has (zfO S) n x):=⟨o.out,fun h=>by have:=k.out.2 h;cases this⟩
   go_wp2;go_ret;exact⟨zI b.out,zf a d⟩
def zdk (N:Nat)(S:Nat->Sail)(b:qi):Prop:=qr b.own/\Qz N S b.lgn b.lg/\qw b.p/\In b.state 1 4/\ZU b/\In b.price 0 1000000
theorem zaH (N:Nat)(S:Nat->Sail)(n:Option Addr)(q:Nat)(b:qi)(j:Option Addr)(l:Nat)(w:World)(D:N<=1048576)(X:ShortAll N S 1048576)(H:qi.Short b 1048576)(E:Z2 N S)(Y:SailsAt w n N S)(hy:zX w j b.lgn b.lg) :
  Calls Tryz.prog 32 #[.slice n N q,.agg #[int i64 b.name,int i64 b.who,.string b.own,.slice j b.lgn l,int i64 b.pe,int i64 b.len,int i64 b.hei,int i64 b.cl,.bool b.all,int i64 b.be,int i64 b.state,int i64 b.unt,int i64 b.price]] w fun e w'=>SaysIf (zdk N S b) e/\Below w.heap.size w w':=by
 have t:Hid (SailsAt w n N S):=Y;have s:Hid (zX w j b.lgn b.lg):=hy;have u:Hid (ShortAll N S 1048576):=X;have i:Hid (qi.Short b 1048576):=H;have G:Hid (Z2 N S):=E;clear Y hy X H E;obtain⟨K,L⟩:∃ K,K=decide (b.state=1∨b.state=4):=⟨_,rfl⟩;obtain⟨T,E⟩:∃ T,T=decide (In b.unt 0 10000):=⟨_,rfl⟩;obtain⟨Z,hZ⟩:∃ Z,(b.unt == 0)=Z:=⟨_,rfl⟩;have J:Hid (K=decide (b.state=1∨b.state=4)):=L;have p:Hid (T=decide (In b.unt 0 10000)):=E;have V:Hid ((if K then T else Z)=true↔ZU b):=by
  show(if K then T else Z)=true↔ZU b
  unfold ZU
  by_cases c:b.state=1∨b.state=4
  ·rw[L,decide_eq_true c,if_pos rfl,if_pos c,E,decide_eq_true_eq]
  ·rw[L,decide_eq_false c,if_neg (by decide),if_neg c,← hZ,beq_iff_eq]
 clear L E;have d:Below w.heap.size w (w.alloc (.cells #[int i64 b.name,int i64 b.who,.string b.own,.slice j b.lgn l,int i64 b.pe,int i64 b.len,int i64 b.hei,int i64 b.cl,.bool b.all,int i64 b.be,int i64 b.state,int i64 b.unt,int i64 b.price] 43)):=zl bZ _;have o:=heap_alloc_new w (.cells #[int i64 b.name,int i64 b.who,.string b.own,.slice j b.lgn l,int i64 b.pe,int i64 b.len,int i64 b.hei,int i64 b.cl,.bool b.all,int i64 b.be,int i64 b.state,int i64 b.unt,int i64 b.price] 43);go_enter Tryz.func32,Tryz.ntmps32;go_upto_region 1 with fail;generalize hBx:w.heap.size=r at o ⊢;generalize w.alloc (.cells #[int i64 b.name,int i64 b.who,.string b.own,.slice j b.lgn l,int i64 b.pe,int i64 b.len,int i64 b.hei,int i64 b.cl,.bool b.all,int i64 b.be,int i64 b.state,int i64 b.unt,int i64 b.price] 43)=W at d o ⊢;have U:=za o 10 _ rfl;go_cut [5] (fun v wx=>v=.bool K/\wx=W)
 case first =>
  by_cases s1:b.state=1
  ·have e1:(b.state == 1)=true:=by simpa using s1
   have x:Hid (K=true):=by show K=true;rw[J.out];exact decide_eq_true (.inl s1)
   clear s1;go_wp2;go_meet;exact⟨by rw[x.out],rfl⟩
  ·have e1:(b.state == 1)=false:=by simpa using s1
   by_cases s4:b.state=4
   ·have e4:(b.state == 4)=true:=by simpa using s4
    have x:Hid (K=true):=by show K=true;rw[J.out];exact decide_eq_true (.inr s4)
    clear s1 s4;go_wp2;go_meet;exact⟨by rw[x.out],rfl⟩
   ·have e4:(b.state == 4)=false:=by simpa using s4
    have x:Hid (K=false):=by show K=false;rw[J.out];exact decide_eq_false (by intro h;rcases h with h|h;exact s1 h;exact s4 h)
    clear s1 s4;go_wp2;go_meet;exact⟨by rw[x.out],rfl⟩
 case rest =>
 obtain⟨rfl,C⟩:=hcut;have C:=C.symm;subst C;clear U J;have k:r<W.heap.size:=zQ o;have z0:∀ g:zv W,g.val.cell? ⟨r,0,none⟩=some (int i64 b.name):=fun g=>(g.bel.cell k).trans (za o 0 _ rfl)
 have z1:∀ g:zv W,g.val.cell? ⟨r,1,none⟩=some (int i64 b.who):=fun g=>(g.bel.cell k).trans (za o 1 _ rfl)
 have z2:∀ g:zv W,g.val.cell? ⟨r,2,none⟩=some (.string b.own):=fun g=>(g.bel.cell k).trans (za o 2 _ rfl)
 have z3:∀ g:zv W,g.val.cell? ⟨r,3,none⟩=some (.slice j b.lgn l):=fun g=>(g.bel.cell k).trans (za o 3 _ rfl)
 have z4:∀ g:zv W,g.val.cell? ⟨r,4,none⟩=some (int i64 b.pe):=fun g=>(g.bel.cell k).trans (za o 4 _ rfl)
 have z5:∀ g:zv W,g.val.cell? ⟨r,5,none⟩=some (int i64 b.len):=fun g=>(g.bel.cell k).trans (za o 5 _ rfl)
 have z6:∀ g:zv W,g.val.cell? ⟨r,6,none⟩=some (int i64 b.hei):=fun g=>(g.bel.cell k).trans (za o 6 _ rfl)
 have z7:∀ g:zv W,g.val.cell? ⟨r,7,none⟩=some (int i64 b.cl):=fun g=>(g.bel.cell k).trans (za o 7 _ rfl)
 have z8:∀ g:zv W,g.val.cell? ⟨r,8,none⟩=some (.bool b.all):=fun g=>(g.bel.cell k).trans (za o 8 _ rfl)
 have z9:∀ g:zv W,g.val.cell? ⟨r,9,none⟩=some (int i64 b.be):=fun g=>(g.bel.cell k).trans (za o 9 _ rfl)
 have a0:∀ g:zv W,g.val.cell? ⟨r,10,none⟩=some (int i64 b.state):=fun g=>(g.bel.cell k).trans (za o 10 _ rfl)
 have a1:∀ g:zv W,g.val.cell? ⟨r,11,none⟩=some (int i64 b.unt):=fun g=>(g.bel.cell k).trans (za o 11 _ rfl)
 have a2:∀ g:zv W,g.val.cell? ⟨r,12,none⟩=some (int i64 b.price):=fun g=>(g.bel.cell k).trans (za o 12 _ rfl)
 clear o hBx;go_upto_region 2 with fail
 by_cases p1:qr b.own
 case neg =>
  have O:Hid (¬ (qr b.own)):=p1;have A:Hid (decide (qr b.own)=false):=decide_eq_false p1;clear p1;refine zg (by kernel_rfl) (by kernel_rfl) ?_
  repeat(first|go_big_quiet_skip|(go_big_quiet_want;go_big_quiet_op;first|go_big_quiet_on|(apply Exists.intro;refine⟨fun g=>?_,?_⟩;(focus(go_at_call 80;refine zh (v:=.bool false) ((Za _ _ (by have:=i.out.1;omega)).mono ?_);rintro e f ⟨rfl,rfl⟩;exact⟨by rw[A.out],bZ⟩));go_big_quiet_on)|(apply Exists.intro;refine⟨fun g=>?_,?_⟩;(focus(go_at_call 84;refine zh (v:=.bool T) ((QH b.unt _).mono ?_);rintro e f ⟨rfl,rfl⟩;exact⟨by rw[p.out],bZ⟩));go_big_quiet_on)))
  refine wpQuiet_nil ?_;rintro _ ⟨g,rfl⟩;go_wp2;go_ret;exact⟨zk (fun h=>O.out (by unfold zdk at h;exact h.1)),zf d g.bel⟩
 have O:Hid (qr b.own):=p1;have A:Hid (decide (qr b.own)=true):=decide_eq_true p1;clear p1
 by_cases p2:Qz N S b.lgn b.lg
 case neg =>
  have z:Hid (¬ (Qz N S b.lgn b.lg)):=p2;clear p2;refine zg (by kernel_rfl) (by kernel_rfl) ?_
  repeat(first|go_big_quiet_skip|(go_big_quiet_want;go_big_quiet_op;first|go_big_quiet_on|(apply Exists.intro;refine⟨fun g=>?_,?_⟩;(focus(go_at_call 80;refine zh (v:=.bool true) ((Za _ _ (by have:=i.out.1;omega)).mono ?_);rintro e f ⟨rfl,rfl⟩;exact⟨by rw[A.out],bZ⟩));go_big_quiet_on)|(apply Exists.intro;refine⟨fun g=>?_,?_⟩;(focus(go_at_call 81;refine zh (v:=.bool false) ((Qc n j N b.lgn q l S b.lg _ D i.out.2 u.out (t.out.below (zf d g.bel)) (s.out.below (zf d g.bel))).mono ?_);rintro e f ⟨⟨y,rfl,m⟩,a⟩;obtain rfl:=Bool.eq_false_iff.2 (fun e=>z.out (m.1 e).2);exact⟨rfl,a⟩));go_big_quiet_on)|(apply Exists.intro;refine⟨fun g=>?_,?_⟩;(focus(go_at_call 84;refine zh (v:=.bool T) ((QH b.unt _).mono ?_);rintro e f ⟨rfl,rfl⟩;exact⟨by rw[p.out],bZ⟩));go_big_quiet_on)))
  refine wpQuiet_nil ?_;rintro _ ⟨g,rfl⟩;go_wp2;go_ret;exact⟨zk (fun h=>z.out (by unfold zdk at h;exact h.2.1)),zf d g.bel⟩
 have z:Hid (Qz N S b.lgn b.lg):=p2;clear p2
 by_cases p3:qw b.p
 case neg =>
  have B:Hid (¬ (qw b.p)):=p3;clear p3;refine zg (by kernel_rfl) (by kernel_rfl) ?_
  repeat(first|go_big_quiet_skip|(go_big_quiet_want;go_big_quiet_op;first|go_big_quiet_on|(apply Exists.intro;refine⟨fun g=>?_,?_⟩;(focus(go_at_call 80;refine zh (v:=.bool true) ((Za _ _ (by have:=i.out.1;omega)).mono ?_);rintro e f ⟨rfl,rfl⟩;exact⟨by rw[A.out],bZ⟩));go_big_quiet_on)|(apply Exists.intro;refine⟨fun g=>?_,?_⟩;(focus(go_at_call 81;refine zh (v:=.bool true) ((Qc n j N b.lgn q l S b.lg _ D i.out.2 u.out (t.out.below (zf d g.bel)) (s.out.below (zf d g.bel))).mono ?_);rintro e f ⟨⟨y,rfl,m⟩,a⟩;obtain rfl:=m.2 ⟨G.out,z.out⟩;exact⟨rfl,a⟩));go_big_quiet_on)|(apply Exists.intro;refine⟨fun g=>?_,?_⟩;(focus(go_at_call 82;refine zh (v:=.bool false) ((Z0 b.pe b.len b.hei b.cl b.all b.be _).mono ?_);rintro e f ⟨⟨y,rfl,m⟩,a⟩;obtain rfl:=Bool.eq_false_iff.2 (fun e=>B.out (m.1 e));exact⟨rfl,a⟩));go_big_quiet_on)|(apply Exists.intro;refine⟨fun g=>?_,?_⟩;(focus(go_at_call 84;refine zh (v:=.bool T) ((QH b.unt _).mono ?_);rintro e f ⟨rfl,rfl⟩;exact⟨by rw[p.out],bZ⟩));go_big_quiet_on)))
  refine wpQuiet_nil ?_;rintro _ ⟨g,rfl⟩;go_wp2;go_ret;exact⟨zk (fun h=>B.out (by unfold zdk at h;exact h.2.2.1)),zf d g.bel⟩
 have B:Hid (qw b.p):=p3;clear p3
 by_cases p4:In b.state 1 4
 case neg =>
  have P:Hid (¬ (In b.state 1 4)):=p4;have F:Hid (decide (In b.state 1 4)=false):=decide_eq_false p4;clear p4;refine zg (by kernel_rfl) (by kernel_rfl) ?_
  repeat(first|go_big_quiet_skip|(go_big_quiet_want;go_big_quiet_op;first|go_big_quiet_on|(apply Exists.intro;refine⟨fun g=>?_,?_⟩;(focus(go_at_call 80;refine zh (v:=.bool true) ((Za _ _ (by have:=i.out.1;omega)).mono ?_);rintro e f ⟨rfl,rfl⟩;exact⟨by rw[A.out],bZ⟩));go_big_quiet_on)|(apply Exists.intro;refine⟨fun g=>?_,?_⟩;(focus(go_at_call 81;refine zh (v:=.bool true) ((Qc n j N b.lgn q l S b.lg _ D i.out.2 u.out (t.out.below (zf d g.bel)) (s.out.below (zf d g.bel))).mono ?_);rintro e f ⟨⟨y,rfl,m⟩,a⟩;obtain rfl:=m.2 ⟨G.out,z.out⟩;exact⟨rfl,a⟩));go_big_quiet_on)|(apply Exists.intro;refine⟨fun g=>?_,?_⟩;(focus(go_at_call 82;refine zh (v:=.bool true) ((Z0 b.pe b.len b.hei b.cl b.all b.be _).mono ?_);rintro e f ⟨⟨y,rfl,m⟩,a⟩;obtain rfl:=m.2 B.out;exact⟨rfl,a⟩));go_big_quiet_on)|(apply Exists.intro;refine⟨fun g=>?_,?_⟩;(focus(go_at_call 74;with_reducible refine zh (v:=.bool false) (Calls.mono (zM b.state 1 4 _) ?_);rintro e f ⟨rfl,rfl⟩;exact⟨by rw[F.out],bZ⟩));go_big_quiet_on)|(apply Exists.intro;refine⟨fun g=>?_,?_⟩;(focus(go_at_call 84;refine zh (v:=.bool T) ((QH b.unt _).mono ?_);rintro e f ⟨rfl,rfl⟩;exact⟨by rw[p.out],bZ⟩));go_big_quiet_on)))
  refine wpQuiet_nil ?_;rintro _ ⟨g,rfl⟩;go_wp2;go_ret;exact⟨zk (fun h=>P.out (by unfold zdk at h;exact h.2.2.2.1)),zf d g.bel⟩
 have P:Hid (In b.state 1 4):=p4;have F:Hid (decide (In b.state 1 4)=true):=decide_eq_true p4;clear p4
 by_cases p5:ZU b
 case neg =>
  have Q:Hid (¬ (ZU b)):=p5;have I:Hid ((if K then T else Z)=false):=Bool.eq_false_iff.2 (fun h=>p5 (V.out.1 h))
  clear p5;refine zg (by kernel_rfl) (by kernel_rfl) ?_
  repeat(first|go_big_quiet_skip|(go_big_quiet_want;go_big_quiet_op;first|go_big_quiet_on|(apply Exists.intro;refine⟨fun g=>?_,?_⟩;(focus(go_at_call 80;refine zh (v:=.bool true) ((Za _ _ (by have:=i.out.1;omega)).mono ?_);rintro e f ⟨rfl,rfl⟩;exact⟨by rw[A.out],bZ⟩));go_big_quiet_on)|(apply Exists.intro;refine⟨fun g=>?_,?_⟩;(focus(go_at_call 81;refine zh (v:=.bool true) ((Qc n j N b.lgn q l S b.lg _ D i.out.2 u.out (t.out.below (zf d g.bel)) (s.out.below (zf d g.bel))).mono ?_);rintro e f ⟨⟨y,rfl,m⟩,a⟩;obtain rfl:=m.2 ⟨G.out,z.out⟩;exact⟨rfl,a⟩));go_big_quiet_on)|(apply Exists.intro;refine⟨fun g=>?_,?_⟩;(focus(go_at_call 82;refine zh (v:=.bool true) ((Z0 b.pe b.len b.hei b.cl b.all b.be _).mono ?_);rintro e f ⟨⟨y,rfl,m⟩,a⟩;obtain rfl:=m.2 B.out;exact⟨rfl,a⟩));go_big_quiet_on)|(apply Exists.intro;refine⟨fun g=>?_,?_⟩;(focus(go_at_call 74;with_reducible refine zh (v:=.bool true) (Calls.mono (zM b.state 1 4 _) ?_);rintro e f ⟨rfl,rfl⟩;exact⟨by rw[F.out],bZ⟩));go_big_quiet_on)|(apply Exists.intro;refine⟨fun g=>?_,?_⟩;(focus(go_at_call 83;refine zh (v:=.bool false) ((zaG K T Z _).mono ?_);rintro e f ⟨rfl,rfl⟩;exact⟨by rw[I.out],bZ⟩));go_big_quiet_on)|(apply Exists.intro;refine⟨fun g=>?_,?_⟩;(focus(go_at_call 84;refine zh (v:=.bool T) ((QH b.unt _).mono ?_);rintro e f ⟨rfl,rfl⟩;exact⟨by rw[p.out],bZ⟩));go_big_quiet_on)))
  refine wpQuiet_nil ?_;rintro _ ⟨g,rfl⟩;go_wp2;go_ret;exact⟨zk (fun h=>Q.out (by unfold zdk at h;exact h.2.2.2.2.1)),zf d g.bel⟩
 have Q:Hid (ZU b):=p5;have I:Hid ((if K then T else Z)=true):=V.out.2 p5;clear p5
 by_cases p6:In b.price 0 1000000
 case neg =>
  have R:Hid (¬ (In b.price 0 1000000)):=p6;have M:Hid (decide (In b.price 0 1000000)=false):=decide_eq_false p6;clear p6;refine zg (by kernel_rfl) (by kernel_rfl) ?_
  repeat(first|go_big_quiet_skip|(go_big_quiet_want;go_big_quiet_op;first|go_big_quiet_on|(apply Exists.intro;refine⟨fun g=>?_,?_⟩;(focus(go_at_call 80;refine zh (v:=.bool true) ((Za _ _ (by have:=i.out.1;omega)).mono ?_);rintro e f ⟨rfl,rfl⟩;exact⟨by rw[A.out],bZ⟩));go_big_quiet_on)|(apply Exists.intro;refine⟨fun g=>?_,?_⟩;(focus(go_at_call 81;refine zh (v:=.bool true) ((Qc n j N b.lgn q l S b.lg _ D i.out.2 u.out (t.out.below (zf d g.bel)) (s.out.below (zf d g.bel))).mono ?_);rintro e f ⟨⟨y,rfl,m⟩,a⟩;obtain rfl:=m.2 ⟨G.out,z.out⟩;exact⟨rfl,a⟩));go_big_quiet_on)|(apply Exists.intro;refine⟨fun g=>?_,?_⟩;(focus(go_at_call 82;refine zh (v:=.bool true) ((Z0 b.pe b.len b.hei b.cl b.all b.be _).mono ?_);rintro e f ⟨⟨y,rfl,m⟩,a⟩;obtain rfl:=m.2 B.out;exact⟨rfl,a⟩));go_big_quiet_on)|(apply Exists.intro;refine⟨fun g=>?_,?_⟩;(focus(go_at_call 74;with_reducible refine zh (v:=.bool true) (Calls.mono (zM b.state 1 4 _) ?_);rintro e f ⟨rfl,rfl⟩;exact⟨by rw[F.out],bZ⟩));go_big_quiet_on)|(apply Exists.intro;refine⟨fun g=>?_,?_⟩;(focus(go_at_call 83;refine zh (v:=.bool true) ((zaG K T Z _).mono ?_);rintro e f ⟨rfl,rfl⟩;exact⟨by rw[I.out],bZ⟩));go_big_quiet_on)|(apply Exists.intro;refine⟨fun g=>?_,?_⟩;(focus(go_at_call 74;with_reducible refine zh (v:=.bool false) (Calls.mono (zM b.price 0 1000000 _) ?_);rintro e f ⟨rfl,rfl⟩;exact⟨by rw[M.out],bZ⟩));go_big_quiet_on)|(apply Exists.intro;refine⟨fun g=>?_,?_⟩;(focus(go_at_call 84;refine zh (v:=.bool T) ((QH b.unt _).mono ?_);rintro e f ⟨rfl,rfl⟩;exact⟨by rw[p.out],bZ⟩));go_big_quiet_on)))
  refine wpQuiet_nil ?_;rintro _ ⟨g,rfl⟩;go_wp2;go_ret;exact⟨zk (fun h=>R.out (by unfold zdk at h;exact h.2.2.2.2.2)),zf d g.bel⟩
 have R:Hid (In b.price 0 1000000):=p6;have M:Hid (decide (In b.price 0 1000000)=true):=decide_eq_true p6;clear p6;refine zg (by kernel_rfl) (by kernel_rfl) ?_
 repeat(first|go_big_quiet_skip|(go_big_quiet_want;go_big_quiet_op;first|go_big_quiet_on|(apply Exists.intro;refine⟨fun g=>?_,?_⟩;(focus(go_at_call 80;refine zh (v:=.bool true) ((Za _ _ (by have:=i.out.1;omega)).mono ?_);rintro e f ⟨rfl,rfl⟩;exact⟨by rw[A.out],bZ⟩));go_big_quiet_on)|(apply Exists.intro;refine⟨fun g=>?_,?_⟩;(focus(go_at_call 81;refine zh (v:=.bool true) ((Qc n j N b.lgn q l S b.lg _ D i.out.2 u.out (t.out.below (zf d g.bel)) (s.out.below (zf d g.bel))).mono ?_);rintro e f ⟨⟨y,rfl,m⟩,a⟩;obtain rfl:=m.2 ⟨G.out,z.out⟩;exact⟨rfl,a⟩));go_big_quiet_on)|(apply Exists.intro;refine⟨fun g=>?_,?_⟩;(focus(go_at_call 82;refine zh (v:=.bool true) ((Z0 b.pe b.len b.hei b.cl b.all b.be _).mono ?_);rintro e f ⟨⟨y,rfl,m⟩,a⟩;obtain rfl:=m.2 B.out;exact⟨rfl,a⟩));go_big_quiet_on)|(apply Exists.intro;refine⟨fun g=>?_,?_⟩;(focus(go_at_call 74;with_reducible refine zh (v:=.bool true) (Calls.mono (zM b.state 1 4 _) ?_);rintro e f ⟨rfl,rfl⟩;exact⟨by rw[F.out],bZ⟩));go_big_quiet_on)|(apply Exists.intro;refine⟨fun g=>?_,?_⟩;(focus(go_at_call 83;refine zh (v:=.bool true) ((zaG K T Z _).mono ?_);rintro e f ⟨rfl,rfl⟩;exact⟨by rw[I.out],bZ⟩));go_big_quiet_on)|(apply Exists.intro;refine⟨fun g=>?_,?_⟩;(focus(go_at_call 74;with_reducible refine zh (v:=.bool true) (Calls.mono (zM b.price 0 1000000 _) ?_);rintro e f ⟨rfl,rfl⟩;exact⟨by rw[M.out],bZ⟩));go_big_quiet_on)|(apply Exists.intro;refine⟨fun g=>?_,?_⟩;(focus(go_at_call 84;refine zh (v:=.bool T) ((QH b.unt _).mono ?_);rintro e f ⟨rfl,rfl⟩;exact⟨by rw[p.out],bZ⟩));go_big_quiet_on)))
 refine wpQuiet_nil ?_;rintro _ ⟨g,rfl⟩;go_wp2;go_ret;exact⟨zI ⟨O.out,z.out,B.out,P.out,Q.out,R.out⟩,zf d g.bel⟩
theorem zfG (f g:Option Addr)(m k n c:Nat)(p:zP)(S:Nat->qW)(w:World)(hl:p.n=m)(s:m<=1048576)(hn:n<=1048576)(r:n<=c)(i:zT w f p)(j:qp w g n S) :
  Calls Tryz.prog 28 #[.slice f m k,.slice g n c] w fun e w'=>SaysIf (zaf p n S) e/\Below w.heap.size w w':=by
 have o:Hid (zT w f p):=i;have q:Hid (qp w g n S):=j;have l:Hid (p.n=m):=hl;clear i j hl;go_enter Tryz.func28,Tryz.ntmps28;go_wp2_with fail;refine(zaV f g m k n c p S _ l.out s hn r o.out q.out).mono ?_;rintro e w1 ⟨a,b⟩;unfold zgn zgD at a
 rcases a with⟨d,rfl⟩|⟨d,rfl⟩
 ·have h:Hid (zaf p n S):=d
  clear d;go_wp2;go_ret;exact⟨zI h.out,zl b _⟩
 ·have h:Hid (¬ zaf p n S):=d
  clear d;go_wp2;go_ret;exact⟨zk h.out,zl b _⟩
theorem four_ints {w:World}{f t m:Nat}{F G:Nat->Int}(h:w.heap[f]?=some (.cells #[int i64 (F 0),int i64 (F 1),int i64 (F 2),int i64 (F 3)] t (0,0)))(hm:m<=4)(a:∀ k,k<m->F k=G k):zX w (some ⟨f,0,none⟩) m G:=by
 intro k b;refine⟨f,0,rfl,?_⟩;rw[Nat.zero_add,← a k b];have:k=0∨k=1∨k=2∨k=3:=by omega
 rcases this with rfl|rfl|rfl|rfl
 ·exact za h 0 _ rfl
 ·exact za h 1 _ rfl
 ·exact za h 2 _ rfl
 ·exact za h 3 _ rfl
theorem zfK (h i:Option Addr)(m u n c:Nat)(p:zP)(S:Nat->qW)(w:World)(hl:p.n=m)(r:m<=1048576)(hn:n<=1048576)(A:n<=c)(s:zT w h p)(t:qp w i n S) :
  Calls Tryz.prog 58 #[.slice h m u,.slice i n c] w fun e w'=>zgs w' w.heap.size p n S e/\Below w.heap.size w w':=by
 have y:Hid (zT w h p):=s;have z:Hid (qp w i n S):=t;have g:Hid (p.n=m):=hl;clear s t hl;go_enter Tryz.func58,Tryz.ntmps58;go_wp2_with fail;refine(zaV h i m u n c p S _ g.out r hn A y.out z.out).mono ?_;rintro e q ⟨a,d⟩;unfold zgn zgD at a
 rcases a with⟨b,rfl⟩|⟨b,rfl⟩
 ·have j:Hid (zaf p n S):=b
  have o:m<=4:=by rw[← g.out];exact b.1.1
  clear b;have i1:(0:Int)<=(m:Int):=by omega
  have i2:(m:Int)<=4:=by omega
  have f:=zl d (.cells #[int i64 (qj p S n 0),int i64 (qj p S n 1),int i64 (qj p S n 2),int i64 (qj p S n 3)] 127);have x:Hid (zX (q.alloc (.cells #[int i64 (qj p S n 0),int i64 (qj p S n 1),int i64 (qj p S n 2),int i64 (qj p S n 3)] 127)) (some ⟨q.heap.size,0,none⟩) m (Zy p S n)):=four_ints (heap_alloc_new q _) o (fun k B=>if_pos (by rw[g.out];exact B))
  go_wp2_with (first|(go_at_call 93;refine(zfI _ m _ (Zy p S n) _ r x.out).mono ?_;rintro e w2 ⟨⟨v,rfl,C⟩,l⟩))
  exact bodyPost_ret (v:=.tuple #[v,.bool true]) (by simp[results,Tryz.results58,go_sem]) rfl ⟨zgt j.out g.out (zC C f.size),zf f l⟩
 ·have j:Hid (¬ zaf p n S):=b
  clear b;go_wp2;exact bodyPost_ret (v:=.tuple #[.slice none 0 0,.bool false]) (by simp[results,Tryz.results58,go_sem]) rfl ⟨zhi j.out,zl d _⟩
end Go.Proofs.YtgmdnkngnhkgbaaGreat
