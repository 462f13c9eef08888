/-
  OWN TEXT: ImplCab, FreeR, KitCp, PutRoom, PlaceRW, PlaceRB, WholeFor.
-/
import Derived.Laws.CopyRow
import Derived.Deep.DeepCutAuto
import Derived.Deep.LoopGhost
import Derived.Test.YtmdnjgihooflfaaGreatDoorB16
namespace Go.Proofs.YtmdnjgihooflfaaGreatDoor
open Go.RowKit
open Go.Value (int)
open Go.IntKind (i64)
open Tryz
set_option maxHeartbeats 64000000
set_option maxRecDepth 100000
theorem zef (o:Option Addr)(n c:Nat)(p:zH)(w:World)(s:p.n=n)(hn:n<=1048576)(v:zG w o p) :
  Calls prog 235 #[(o,n,c)] w λe w'=>qX (zaZ p 6 1 3 1 4) e/\Below w.heap.size w w':=by
 have f:=hI s;clear s
 by_cases h0:n<=6
 ·have q:decide (6<n)=false:=by simp;omega
  go_enter func235,ntmps235;go_wp2;go_loopw [4,10] (λ_ i wr=>∃ k,k<=n/\i=int i64 k/\(∀ j,j<k->In (p.A j) 1 3/\In (p.B j) 1 4)/\Below w.heap.size w wr) (λ_ i _=>n - (intOf i).toNat)
  case atStart=>exact⟨0,Jq _,rfl,λj l=>by omega,bZ⟩
  case round =>
   obtain⟨k,hk,rfl,d,a⟩:=hrel;have m:=hI d;clear d q
   by_cases hlt:k<n
   ·obtain⟨b,off,rfl,h1,h2⟩:=v k (by rw[f.out];omega)
    have r:=Ja w _ h1;have c1:=(a.cell r).trans h1;have c2:=(a.cell (p:=⟨b,_+1,_⟩) r).trans h2;clear h1 h2
    by_cases g1:In (p.A k) 1 3
    ·have t:=Jd g1
     by_cases g2:In (p.B k) 1 4
     ·have u:=Jd g2
      have g:Hid (_/\_):=⟨g1,g2⟩;clear g1 g2;go_wp2_with (first|(go_at_call 262;refine sC (zbr _ _) ?_)|(go_at_call 263;refine sC (zdj _ _) ?_))
      go_roundw
      case rel=>exact⟨k+1,by omega,by go_num,λj l=>by
       by_cases e:j=k
       ·subst e;exact g
       ·exact m j (by omega),zk a _⟩
      case measure=>simp[intOf];omega
     ·have u:=Jc g2
      have g:=hI g2;clear g1 g2;go_wp2_with (first|(go_at_call 262;refine sC (zbr _ _) ?_)|(go_at_call 263;refine sC (zdj _ _) ?_))
      go_ret;exact⟨zl (λh=>g (h.2 k (by rw[f.out];exact hlt)).2),zk a _⟩
    ·have t:=Jc g1
     have g:=hI g1;clear g1;go_wp2_with (first|(go_at_call 262;refine sC (zbr _ _) ?_)|(go_at_call 263;refine sC (zdj _ _) ?_))
     go_ret;exact⟨zl (λh=>g (h.2 k (by rw[f.out];exact hlt)).1),zk a _⟩
   ·obtain rfl:k=n:=by omega
    go_wp2;go_ret;exact⟨zR ⟨by rw[f.out];exact h0,λj l=>m j (by rw[f.out] at l;exact l)⟩,a⟩
 ·have q:decide (6<n)=true:=by simp;omega
  go_enter func235,ntmps235;go_wp2;go_ret;exact⟨zl (λh=>by have:=h.1;rw[f.out] at this;exact h0 this),bZ⟩
def zmI (p:zH)(n:Nat)(S:Nat->qN)(e:Ending):Prop :=
 (zkq p n S/\e=.returned (.tuple #[six (Zl p S n),.bool true]))∨(¬ zkq p n S/\e=.returned (.tuple #[six (λ_=>0),.bool false]))
theorem zfr {w:World}{g t:Nat}{u0 u1 u2 u3 u4 u5:Value}(h:w.heap[g]?=some (.cells #[u0,u1,u2,u3,u4,u5] t (0,0)))(v0 v1 v2 v3 v4 v5:Value) :
  ((((((w.setCell (g,0) v0).setCell (g,1) v1).setCell (g,2) v2).setCell (g,3) v3).setCell (g,4) v4).setCell (g,5) v5).heap[g]?=some (.cells #[v0,v1,v2,v3,v4,v5] t (0,0)):=by
 have:=zm (zm (zm (zm (zm (zm h 0 v0) 1 v1) 2 v2) 3 v3) 4 v4) 5 v5
 simpa using this
theorem zcy {w w':World}{g:Nat}(h:Below w.heap.size w w')(a:w.heap.size<=g)(v0 v1 v2 v3 v4 v5:Value):Below w.heap.size w ((((((w'.setCell (g,0) v0).setCell (g,1) v1).setCell (g,2) v2).setCell (g,3) v3).setCell (g,4) v4).setCell (g,5) v5) :=
 (((((h.setCell a _).setCell a _).setCell a _).setCell a _).setCell a _).setCell a _
theorem zero_row6 {w:World}{g t:Nat}(h:w.heap[g]?=some (.cells #[(),(),(),(),(),()] t (0,0))):w.rowIs g t 6 (λk=>int i64 (zbJ 0 (λ_=>(0:Int)) 0 k)):=by
 refine⟨_,h,rfl,λi hi=>?_⟩
 have:i=0∨i=1∨i=2∨i=3∨i=4∨i=5:=by omega
 rcases this with rfl|rfl|rfl|rfl|rfl|rfl <;> rfl
theorem zbh (ao bo:Option Addr)(m mc n c:Nat)(p:zH)(S:Nat->qN)(w:World)(hl:p.n=m)(hm:m<=1048576)(hn:n<=1048576)(hc:n<=c)(hx:zG w ao p)(hz:qp w bo n S) :
  Calls prog 237 #[(ao,m,mc),(bo,n,c)] w λe w'=>zmI p n S e/\Below w.heap.size w w':=by
 have X:=hI hl;have HX:=hI hx;have HZ:=hI hz;clear hl hx hz;have O:Below _ w (w.alloc (.cells #[(),(),(),(),(),()] 323)):=zk bZ _;have r0:=zoP O;go_enter func237,ntmps237;go_wp2_with fail;refine(zef ao m mc p _ X hm (HX.below O)).mono ?_;rintro e w1 ⟨⟨q,rfl,hq⟩,a0⟩;have N:=ze O a0;have Q:=zb r0 a0;clear O r0 a0
 cases q with
 | false =>
  have T:Hid (¬ zgt p):=λh=>by have:=hq.2 h;cases this
  clear hq;obtain⟨o0,o1,o2,o3,o4,o5⟩:=ce6 Q;obtain⟨f0,f1,f2,f3,f4,f5⟩:=fe6 Q;go_wp2;have K:=zfr Q () () () () () ();obtain⟨D,E,F,H,I,J⟩:=ce6 K;exact Jj (by simp[results,results237,go_sem,D,E,F,H,I,J,six]) rfl ⟨.inr ⟨λh=>T h.1,rfl⟩,zcy N (Jr _) _ _ _ _ _ _⟩
 | true =>
  have T:Hid (zgt p):=hq.1 rfl;have b7:m<=6:=by rw[← X.out];exact T.1
  clear hq
  by_cases h60:n<=60
  ·have d0:decide (60<n)=false:=by simp;omega
   go_upto_region 4 with fail;have r2:=zd Q (.cells #[(),(),(),(),(),()] 323);have x2:=zero_row6 (Jb w1 (.cells _ 323));have Y:=zk N (.cells #[(),(),(),(),(),()] 323);have hf:=zM Q;generalize w1.alloc _=w2 at r2 x2 Y ⊢;generalize w1.heap.size=f at hf x2 ⊢;clear Q N;go_wp2;go_loopw [7,8,22] (λ_ _ i wr=>∃ k,k<=m/\i=int i64 k/\wr.rowIs f 323 6 (λj=>int i64 (zbJ k p.B 0 j))/\wr.heap[w.heap.size]?=some (.cells #[(),(),(),(),(),()] 323 (0,0))/\Below w.heap.size w wr) (λ_ _ i _=>m - (intOf i).toNat)
   case atStart=>exact⟨0,Jq _,rfl,x2.congr (λj _=>by unfold zbJ;rw[Je (Nat.not_lt_zero _),Je (Nat.not_lt_zero _)]),r2,Y⟩
   case round =>
    obtain⟨k,hk,rfl,x,hr,t⟩:=hrel;clear r2 x2 Y
    by_cases hlt:k<m
    ·obtain⟨b,off,rfl,h1,h2⟩:=HX k (by rw[X.out];exact hlt)
     have Z:=Ja w _ h1;have c1:=(t.cell Z).trans h1;have c2:=(t.cell (p:=⟨b,_+1,_⟩) Z).trans h2;have i1:(0:Int)<=(k:Int):=by omega
     have i2:(k:Int)<6:=by omega
     have C:=qo x (zk (Ji _ wr) (.cells #[(p.A k),(p.B k)] 231));have a5:=zd hr (.cells #[(p.A k),(p.B k)] 231);have a2:=Jb wr (.cells #[(p.A k),(p.B k)] 231);have a1:=zk t (.cells #[(p.A k),(p.B k)] 231);clear h1 h2;go_upto_region 7 with fail;generalize hW:wr.alloc _=W at C a5 a2 a1 ⊢;clear hW;have o0:=C.cell (i:=k) (by omega)
     have f0:=C.frozen k;have z1:=za a2 1 _ rfl;have b3:=hI C;have b4:=hI a5;have b2:=hI a1;clear C a5 a2 a1 x hr t c1 c2;go_wp2;go_roundw
     case rel=>exact⟨k+1,by omega,by go_num,(b3.set k _).congr (λj _=>by
      by_cases e:j=k
      ·subst e;rw[Jf rfl,qr _ _ (Nat.lt_succ_self _)]
      ·rw[Je e,QB _ _ _ _ e]),zD b4 _ _ (by omega),b2.setCell (by show w.heap.size<=f;omega) _⟩
     case measure=>simp[intOf];omega
    ·obtain rfl:k=m:=by omega
     have B:wr.rowIs f 323 6 (λj=>.int _ (Zl p S 0 j)):=x.congr (λj _=>by rw[freeR_0,X.out])
     clear x;go_wp2;go_loopw [9,10,34] (λ_ _ i wr=>∃ k,k<=n/\i=int i64 k/\(∀ j,j<k->In (S j).who 1 9999/\¬ Has (ZV S) j (S j).who/\zbE p (Za p S j) (S j))/\wr.rowIs f 323 6 (λj=>int i64 (Zl p S k j))/\wr.heap[w.heap.size]?=some (.cells #[(),(),(),(),(),()] 323 (0,0))/\Below w.heap.size w wr) (λ_ _ i _=>n - (intOf i).toNat)
     case atStart=>exact⟨0,Jq _,rfl,λj hj=>by omega,B,hr,t⟩
     case round =>
      obtain⟨i,hi,rfl,U,a,A,d⟩:=hrel;have HA:=hI U;clear U B hr t
      by_cases hlt2:i<n
      ·obtain⟨b,off,rfl,h0,h1,h2,h3⟩:=HZ i hlt2
       have Z:=Ja w _ h0;have c0:=(d.cell Z).trans h0;have c1:=(d.cell (p:=⟨b,_+1,_⟩) Z).trans h1;have c2:=(d.cell (p:=⟨b,_+2,_⟩) Z).trans h2;have c3:=(d.cell (p:=⟨b,_+3,_⟩) Z).trans h3;have o:=Jb wr (.cells #[(S i).who,(S i).cab,(S i).many,(S i).all] 228);have r:=zk d (.cells #[(S i).who,(S i).cab,(S i).many,(S i).all] 228);have z:=zd A (.cells #[(S i).who,(S i).cab,(S i).many,(S i).all] 228);have s:=qo a (zk (Ji _ wr) (.cells #[(S i).who,(S i).cab,(S i).many,(S i).all] 228));clear h0 h1 h2 h3;go_upto_region 12 with fail;generalize hW:wr.alloc _=W at o r z s ⊢;clear hW;have P:=zM o;have y:=s.lt;have b0:=hI s;have z0:∀ g:zn W,g.val.cell? _=some (.int _ _):=λg=>(g.bel.cell P).trans (za o 0 _ rfl)
       have z1:∀ g:zn W,g.val.cell? _=some (.int _ _):=λg=>(g.bel.cell P).trans (za o 1 _ rfl)
       have z2:∀ g:zn W,g.val.cell? _=some (.int _ _):=λg=>(g.bel.cell P).trans (za o 2 _ rfl)
       have z3:∀ g:zn W,g.val.cell? _=some (.bool _):=λg=>(g.bel.cell P).trans (za o 3 _ rfl)
       have y0:∀ g:zn W,_:=λg=>(g.bel.cell y).trans (s.cell (i:=0) (by omega))
       have y1:∀ g:zn W,_:=λg=>(g.bel.cell y).trans (s.cell (i:=1) (by omega))
       have y2:∀ g:zn W,_:=λg=>(g.bel.cell y).trans (s.cell (i:=2) (by omega))
       have y3:∀ g:zn W,_:=λg=>(g.bel.cell y).trans (s.cell (i:=3) (by omega))
       have y4:∀ g:zn W,_:=λg=>(g.bel.cell y).trans (s.cell (i:=4) (by omega))
       have y5:∀ g:zn W,_:=λg=>(g.bel.cell y).trans (s.cell (i:=5) (by omega))
       have i1:(0:Int)<=(i:Int):=by omega
       have i2:(i:Int)<=(c:Int):=by omega
       clear c0 c1 c2 c3 o a A d s
       by_cases g1:In (S i).who 1 9999
       ·have e1:=Jd g1
        have H1:=hI g1;clear g1
        by_cases hh:Has (ZV S) i (S i).who
        ·have e2:=Jd ((QC _ _ _).2 hh)
         have HH:=hI hh;clear hh;refine zh (by kernel_rfl) (by kernel_rfl) ?_
         repeat(first|go_big_quiet_skip|(go_big_quiet_want;go_big_quiet_op;first|go_big_quiet_on|(apply Jg;refine⟨λg=>?_,?_⟩;(focus(first|(go_at_call 102;refine zf (v:=.bool true) ((Qg _ _).mono ?_);rintro e V ⟨rfl,rfl⟩;exact⟨by rw[e1],bZ⟩)|(go_at_call 244;refine zf (v:=int i64 (Zv (ZV S) (S i).who i)) ((QF _ i c S _ _ (by omega) ((HZ.upto (by omega)).below (ze r g.bel))).mono ?_);rintro e V ⟨rfl,u⟩;exact⟨rfl,u⟩)));go_big_quiet_on)))
         refine Jl ?_;rintro _ ⟨g,rfl⟩;have L:=zb z g.bel;obtain⟨o0,o1,o2,o3,o4,o5⟩:=ce6 L;obtain⟨f0,f1,f2,f3,f4,f5⟩:=fe6 L;go_wp2;have K:=zfr L () () () () () ();obtain⟨D,E,F,H,I,J⟩:=ce6 K;exact Jj (by simp[results,results237,go_sem,D,E,F,H,I,J,six]) rfl ⟨.inr ⟨λh=>(h.2.2 i hlt2).2.1 HH,rfl⟩,zcy (ze r g.bel) (Jr _) _ _ _ _ _ _⟩
        ·have e2:=Jc (λh=>hh ((QC _ _ _).1 h))
         have HH:=hI hh;clear hh
         by_cases hfit:zbE p (Zl p S i) (S i)
         ·have M:=hI hfit
          clear hfit;refine zh (by kernel_rfl) (by kernel_rfl) ?_
          repeat(first|go_big_quiet_skip|(go_big_quiet_want;go_big_quiet_op;first|go_big_quiet_on|(apply Jg;refine⟨λg=>?_,?_⟩;(focus(first|(go_at_call 102;refine zf (v:=.bool true) ((Qg _ _).mono ?_);rintro e V ⟨rfl,rfl⟩;exact⟨by rw[e1],bZ⟩)|(go_at_call 244;refine zf (v:=int i64 (Zv (ZV S) (S i).who i)) ((QF _ i c S _ _ (by omega) ((HZ.upto (by omega)).below (ze r g.bel))).mono ?_);rintro e V ⟨rfl,u⟩;exact⟨rfl,u⟩)|(go_at_call 265;refine zf (v:=.bool true) ((zfI _ _ mc p _ _ _ _ _ _ X T (HX.below (ze r g.bel))).mono ?_);rintro e V ⟨⟨bb,rfl,hi⟩,u⟩;obtain rfl:=hi.2 M;exact⟨rfl,u⟩)));go_big_quiet_on)))
          refine Jl ?_;rintro _ ⟨g,rfl⟩;obtain⟨l,hl⟩:∃ l:Nat,(S i).cab=l:=⟨(S i).cab.toNat,by have:=M.1;unfold In at this;omega⟩
          have a3:l<p.n:=by have:=M.1;unfold In at this;omega
          have a7:=hI hl;have l4:l<6:=by have:=X.out;omega
          have v1:g.val.cell? ⟨wr.heap.size,1,none⟩=some (int i64 (l:Int)):=by rw[z1 g,hl]
          have v2:=z2 g;have R:=qo b0 g.bel;have v3:=R.cell l4;have v4:=R.frozen l;have l1:(0:Int)<=(l:Int):=by omega
          have l2:(l:Int)<6:=by omega
          have b8:IntKind.i64.wrap (Zl p S i l - (S i).many)=Zl p S i l - (S i).many:=by
           have st:=zgM (n:=i+1) T (λj hj=>by
            by_cases e:j=i
            ·subst e;exact zem.1 M
            ·exact(HA j (by omega)).2.2)
           have h1:=zdq T (show i<=60 by omega) (st i (by omega)).1 a3
           have h2:=(st _ (Jr _)).1 i (by omega)
           unfold In at h2;rw[zcN a3,Jk];omega
          have a8:=hI (zb z g.bel);have a6:=hI (ze r g.bel);have a9:=hI R;clear hl R z0 z1 z2 z3 y0 y1 y2 y3 y4 y5 z r;generalize g.val=G at *;go_upto_region 14 with fail;have a4:Hid ((G.setCell (f,l) (int i64 (Zl p S i l - (S i).many))).drew.rowIs f 323 6 (λj=>int i64 (Zl p S (i+1) j))):=by
           refine(a9.set l _).congr (λj _=>?_)
           rw[← znm p S i l j a3 a7.out]
           split <;> rfl
          have b6:Hid ((G.setCell ⟨f,l,_⟩ (int i64 (Zl p S i l - (S i).many))).drew.heap[w.heap.size]?=_):=zK (zD a8 _ _ (by omega))
          have b5:Hid (Below _ w (G.setCell (f,l) (int i64 (Zl p S i l - (S i).many))).drew):=(a6.setCell (by show w.heap.size<=f;omega) _).drew
          have b1:Hid (∀ j,j<i+1->In (S j).who 1 9999/\¬ Has _ j (S j).who/\zbE p _ _):=λj hj=>by
           by_cases e:j=i
           ·subst e;exact⟨H1,HH,zem.1 M⟩
           ·exact HA j (by omega)
          clear HH M HA a7 a8 a6 a9 b0;go_region
          all_goals (go_wp2;go_roundw)
          all_goals first|(exact⟨_,by omega,by go_num,b1,a4,b6,b5⟩)|(simp[intOf];omega)
         ·have M:=hI hfit
          clear hfit;refine zh (by kernel_rfl) (by kernel_rfl) ?_
          repeat(first|go_big_quiet_skip|(go_big_quiet_want;go_big_quiet_op;first|go_big_quiet_on|(apply Jg;refine⟨λg=>?_,?_⟩;(focus(first|(go_at_call 102;refine zf (v:=.bool true) ((Qg _ _).mono ?_);rintro e V ⟨rfl,rfl⟩;exact⟨by rw[e1],bZ⟩)|(go_at_call 244;refine zf (v:=int i64 (Zv (ZV S) (S i).who i)) ((QF _ i c S _ _ (by omega) ((HZ.upto (by omega)).below (ze r g.bel))).mono ?_);rintro e V ⟨rfl,u⟩;exact⟨rfl,u⟩)|(go_at_call 265;refine zf (v:=.bool false) ((zfI _ _ mc p _ _ _ _ _ _ X T (HX.below (ze r g.bel))).mono ?_);rintro e V ⟨⟨bb,rfl,hi⟩,u⟩;obtain rfl:=Bool.eq_false_iff.2 (λe=>M (hi.1 e));exact⟨rfl,u⟩)));go_big_quiet_on)))
          refine Jl ?_;rintro _ ⟨g,rfl⟩;have L:=zb z g.bel;obtain⟨o0,o1,o2,o3,o4,o5⟩:=ce6 L;obtain⟨f0,f1,f2,f3,f4,f5⟩:=fe6 L;go_wp2;have K:=zfr L () () () () () ();obtain⟨D,E,F,H,I,J⟩:=ce6 K;exact Jj (by simp[results,results237,go_sem,D,E,F,H,I,J,six]) rfl ⟨.inr ⟨λh=>M (zem.2 (h.2.2 i hlt2).2.2),rfl⟩,zcy (ze r g.bel) (Jr _) _ _ _ _ _ _⟩
       ·have e1:=Jc g1
        have H1:=hI g1;clear g1;refine zh (by kernel_rfl) (by kernel_rfl) ?_
        repeat(first|go_big_quiet_skip|(go_big_quiet_want;go_big_quiet_op;first|go_big_quiet_on|(apply Jg;refine⟨λg=>?_,?_⟩;(focus(first|(go_at_call 102;refine zf (v:=.bool false) ((Qg _ _).mono ?_);rintro e V ⟨rfl,rfl⟩;exact⟨by rw[e1],bZ⟩)));go_big_quiet_on)))
        refine Jl ?_;rintro _ ⟨g,rfl⟩;have L:=zb z g.bel;obtain⟨o0,o1,o2,o3,o4,o5⟩:=ce6 L;obtain⟨f0,f1,f2,f3,f4,f5⟩:=fe6 L;go_wp2;have K:=zfr L () () () () () ();obtain⟨D,E,F,H,I,J⟩:=ce6 K;exact Jj (by simp[results,results237,go_sem,D,E,F,H,I,J,six]) rfl ⟨.inr ⟨λh=>H1 (h.2.2 i hlt2).1,rfl⟩,zcy (ze r g.bel) (Jr _) _ _ _ _ _ _⟩
      ·obtain rfl:i=n:=by omega
       obtain⟨o0,o1,o2,o3,o4,o5⟩:=ce6 A;obtain⟨f0,f1,f2,f3,f4,f5⟩:=fe6 A;have c0:=a.cell (i:=0) (by omega)
       have c1:=a.cell (i:=1) (by omega)
       have c2:=a.cell (i:=2) (by omega)
       have c3:=a.cell (i:=3) (by omega)
       have c4:=a.cell (i:=4) (by omega)
       have c5:=a.cell (i:=5) (by omega)
       go_wp2;have K:=zfr A (Zl p S i 0) (Zl p S i 1) (Zl p S i 2) (Zl p S i 3) (Zl p S i 4) (Zl p S i 5);obtain⟨D,E,F,H,I,J⟩:=ce6 K;exact Jj (by simp[results,results237,go_sem,D,E,F,H,I,J,six]) rfl ⟨.inl ⟨⟨T,h60,HA⟩,rfl⟩,zcy d (Jr _) _ _ _ _ _ _⟩
  ·have d0:decide (60<n)=true:=by simp;omega
   obtain⟨o0,o1,o2,o3,o4,o5⟩:=ce6 Q;obtain⟨f0,f1,f2,f3,f4,f5⟩:=fe6 Q;go_wp2;have K:=zfr Q () () () () () ();obtain⟨D,E,F,H,I,J⟩:=ce6 K;exact Jj (by simp[results,results237,go_sem,D,E,F,H,I,J,six]) rfl ⟨.inr ⟨λh=>h60 h.2.1,rfl⟩,zcy N (Jr _) _ _ _ _ _ _⟩
theorem znt {P:Program}(w:World)(p A B elem:TypeId)(g c f:Nat)(o:Option Addr)(b h:Nat)(d:Array Value)(t:TypeId)(cs:List Value)(sz:Nat)
  (z:P.underlying p=some (.slice elem)) (r:(P.info? elem).map (·.size)=some sz)
  (u:w.heap[g]?=some (.cells d t (0,0))) (q:b<=c) (y:cs.length=b*sz) (m:o=none->b=0/\h=0)
  (n:∀ a,o=some a->∀ j v,cs[j]?=some v->w.cell? (a.add j)=some v) (k:cs.length<=d.size) (h1:∀ v ∈ cs,v.oneCell'=true) :
  (Builtin.copy_ #[p,A] B #[(some (g,0),c,f),(o,b,h)]).run P w =
   .ok (goInt b) (w.setRow g (cs++d.toList.drop cs.length).toArray):=by
 cases o with
 | none =>
  obtain⟨rfl,rfl⟩:=m rfl;have e:cs=[]:=List.eq_nil_of_length_eq_zero (by rw[y];omega)
  subst e;rw[run_copy_nil (P:=P) w p A B elem ⟨g,0,none⟩ c f z (by rw[r];rfl)]
  simp only[List.nil_append,List.length_nil,List.drop_zero,Array.toArray_toList];rw[setRow_self w g d t (0,0) u]
  rfl
 | some a =>
  have x:=run_loadCells_list (P:=P) w a cs (n a rfl);have s:=run_storeCells_at P g 0 t cs 0 d w u (by simpa using k) h1
  have l:Nat.min b c=b:=Nat.min_eq_left q
  cases hq:P.info? elem with
  | none=>simp[hq] at r
  | some i =>
   have C:i.size=sz:=by simpa [hq] using r
   rw[y] at x;simp[Builtin.copy_,run_underlying z,Builtin.lenOf,Builtin.firstCells,sizeOf,typeInfo,hq,C,l,x,s]
theorem copy_k {P:Program}(w:World)(n r elem:TypeId)(g c f:Nat)(m:Option Addr)(b d:Nat)(e:Array Value)(t:TypeId)(cs:List Value)(sz:Nat)
  (x:P.underlying n=some (.slice elem)) (u:(P.info? elem).map (·.size)=some sz)
  (q:w.heap[g]?=some (.cells e t (0,0))) (o:b<=c) (s:cs.length=b*sz) (i:m=none->b=0/\d=0)
  (l:∀ a,m=some a->∀ j v,cs[j]?=some v->w.cell? (a.add j)=some v) (h:cs.length<=e.size) (h1:∀ v ∈ cs,v.oneCell'=true) :
  ∃ w',(∀ p,(Builtin.copy_ #[n,r] p #[(some (g,0),c,f),(m,b,d)]).run P w=.ok (goInt b) w') /\
   w'.heap[g]?=some (.cells (cs++e.toList.drop cs.length).toArray t (0,0))/\Below g w w' :=
 ⟨_,λp=>znt (P:=P) w n r p elem g c f m b d e t cs sz x u q o s i l h h1,setRow_heap w g _ _ t _ q,
  ⟨rfl,rfl,rfl,by simp[World.setRow],λk hk=>setRow_other w g k _ (by omega)⟩⟩
theorem own_row {w:World}{base e size g n:Nat}{i:List Value}(h:w.ownsRow base e size (some (g,0),n,n) n i):∃ a:Array Value,w.heap[g]?=some (.cells a e (0,0))/\a.size=n*size:=by
 obtain⟨_,h|⟨g',c,a,b,_,d,_,_,f,_⟩⟩:=h
 ·cases h.1
 ·simp only[Value.slice.injEq,Option.some.injEq,Addr.mk.injEq] at b
  obtain⟨⟨rfl,_,_⟩,_,rfl⟩:=b;exact⟨a,d,f⟩
theorem zhY {w:World}{g t N:Nat}{a:List Value}(h:w.heap[g]?=some (.cells a.toArray t (0,0)))(b:a.length=N):w.rowIs g t N (λj=>a.getD j (.bool false)):=by
 refine⟨_,h,by simpa using b,λi hi=>?_⟩
 have:i<a.length:=by omega
 simp[List.getElem?_eq_getElem this]
theorem zgT (bo:Option Addr)(n c:Nat)(S:Nat->qN)(r:qN)(w:World)(hn:n<=1048576)(H:qp w bo n S)(k:bo=none->n=0/\c=0) :
  Calls prog 298 #[(bo,n,c),.agg #[r.who,r.cab,r.many,r.all]] w λe w'=>(∃ v,e=.returned v/\w'.ownsRow w.heap.size 228 4 v (n+1) (zw (ZE S n (λ_=>r)) (n+1)))/\Below w.heap.size w w':=by
 obtain⟨Q,I,D,x,E⟩:=info_parts Tryz.infoRoom;have O:=hI H;have A:=hI k;clear H k;have P:IntKind.i64.wrap ((n:Int)+1)=((n+1:Nat):Int):=by rw[Jk];omega
 have s:(Tryz.prog.info? 228).map (·.size)=some 4:=by rw[I];simp[x]
 have q:=zk (Ji _ w) (.cells #[r.who,r.cab,r.many,r.all] 228);have J:=Jb w (.cells #[r.who,r.cab,r.many,r.all] 228);go_enter func298,ntmps298;go_upto_region 2 with(first|(at_make;refine wpList_make_full _ rfl _ _ 142 rfl w.heap.size 228 Q _ 4 underlying142 I D x _ _ _ _ (n+1) rfl rfl (by simp) (by simp) (by rw[E];omega) (by unfold maxLen;omega) (by simp) ?_;intro W g b))
 have l:=q.grown b (by simp) (λj F=>by cases F)
 have K:=zjB b J (by simp)
 obtain⟨d,f,u⟩:=own_row g;have L:=hI (Qv (O.below l));have B:=hI K;have y:=hI l;clear g b J q K l;rw[World.size_alloc] at f;obtain⟨X,G,t,m⟩:=copy_k W 142 142 228 _ (n+1) (n+1) bo n c d 228 _ 4 underlying142 s f (by omega) (qK _ _) A L (by rw[qK,u];omega) (Z5 _ _)
 have a:=zhY t (N:=(n+1)*4) (by simp[qK,u];omega)
 have p:=(m.block _ (by omega)).trans B
 obtain⟨o0,o1,o2,o3⟩:=ce4 p;have R:=a.cell (i:=n*4) (by omega)
 have T:=a.cell (i:=n*4+1) (by omega)
 have U:=a.cell (i:=n*4+2) (by omega)
 have V:=a.cell (i:=n*4+3) (by omega)
 have f0:=a.frozen (n*4);have f1:=a.frozen (n*4+1);have f2:=a.frozen (n*4+2);have f3:=a.frozen (n*4+3);have i1:(0:Int)<=(n:Int):=by omega
 have i2:(n:Int)<((n+1:Nat):Int):=by omega
 have z:=hI (y.trans (m.mono (by omega)))
 have C:=hI a;clear t m a p f;generalize List.getD (_++d.toList.drop _) _ _=u0 at R;generalize List.getD (_++d.toList.drop _) _ _=u1 at T;generalize List.getD (_++d.toList.drop _) _ _=u2 at U;generalize List.getD (_++d.toList.drop _) _ _=u3 at V;have M:Hid (((((X.setCell (w.heap.size+1,n*4) r.who).setCell (w.heap.size+1,n*4+1) r.cab).setCell (w.heap.size+1,n*4+2) r.many).setCell (w.heap.size+1,n*4+3) r.all).rowIs (w.heap.size+1) 228 ((n+1)*4) (qs (ZE S n (λ_=>r)))):=by
  refine((((C.set _ _).set _ _).set _ _).set _ _).congr (λj F=>?_)
  have h:ZE S n (λ_=>r) n=r:=by unfold ZE;rw[Je (Nat.lt_irrefl _)]
  by_cases h3:j=n*4+3
  ·subst h3;rw[Jf rfl,zaM,h]
  rw[Je h3]
  by_cases h2:j=n*4+2
  ·subst h2;rw[Jf rfl,zaL,h]
  rw[Je h2]
  by_cases h1:j=n*4+1
  ·subst h1;rw[Jf rfl,zaK,h]
  rw[Je h1]
  by_cases h0:j=n*4
  ·subst h0;rw[Jf rfl,zaJ,h]
  rw[Je h0];have o:j<(zw S n).length:=by rw[qK];omega
  rw[List.getD_eq_getElem?_getD,List.getElem?_append_left o,List.getElem?_eq_getElem o,Option.getD_some];have:=zfz (List.getElem?_eq_getElem o);rw[this.2];unfold qs ZE;rw[Jf (show j / 4<n by omega)]
 go_wp2;go_ret;exact⟨⟨_,rfl,Zz M (by omega) (by unfold maxLen;omega)⟩,(((z.setCell (by show w.heap.size<=w.heap.size+1;omega) _).setCell (by show w.heap.size<=w.heap.size+1;omega) _).setCell (by show w.heap.size<=w.heap.size+1;omega) _).setCell (by show w.heap.size<=w.heap.size+1;omega) _⟩
attribute [local go_sem ↓] Go.wp_at_zero Go.wp_at_succ
def MayW (p:zH)(n:Nat)(S:Nat->qN)(x:Int):Prop:=Qr p n S/\¬ Has (ZV S) n x/\In x 1 9999
def HadW (p:zH)(n:Nat)(S:Nat->qN)(cl q:Int)(j:Nat):Prop:=p.A j=cl/\(Za p S n j=p.B j/\q<=p.B j)
def PlaceW (w':World)(base t:Nat)(p:zH)(n:Nat)(S:Nat->qN)(x cl q:Int)(e:Ending):Prop :=
 (∃ k v,MayW p n S x/\ZH p.n (HadW p n S cl q) k/\e=.returned (.tuple #[v,(k:Int),.bool true])/\w'.ownsRow base t 4 v (n+1) (zw (ZE S n (λ_=>⟨x,(k:Int),p.B k,true⟩)) (n+1))) ∨
 ((∀ k,¬ (MayW p n S x/\ZH p.n (HadW p n S cl q) k))/\e=.returned (.tuple #[True,(),.bool false]))
theorem rec4W {w:World}{g t:Nat}{u0 u1 u2 u3:Value}(h:w.heap[g]?=some (.cells #[u0,u1,u2,u3] t (0,0)))(v0 v1 v2 v3:Value) :
  ((((w.setCell (g,0) v0).setCell (g,1) v1).setCell (g,2) v2).setCell (g,3) v3).heap[g]?=some (.cells #[v0,v1,v2,v3] t (0,0)):=by
 have:=zm (zm (zm (zm h 0 v0) 1 v1) 2 v2) 3 v3
 simpa using this
theorem row6W {w:World}{g t:Nat}{F:Nat->Int}(h:w.heap[g]?=some (.cells #[(F 0),(F 1),(F 2),(F 3),(F 4),(F 5)] t (0,0))):w.rowIs g t 6 (λk=>int i64 (F k)):=by
 refine⟨_,h,rfl,λi hi=>?_⟩
 have:i=0∨i=1∨i=2∨i=3∨i=4∨i=5:=by omega
 rcases this with rfl|rfl|rfl|rfl|rfl|rfl <;> rfl
theorem znu (ao bo:Option Addr)(m mc n c:Nat)(p:zH)(S:Nat->qN)(x cl q:Int)(w:World)(hl:p.n=m)(hm:m<=1048576)(hn:n<=1048576)(hc:n<=c)(hx:zG w ao p)(hz:qp w bo n S)(E:bo=none->n=0/\c=0) :
  Calls prog 295 #[(ao,m,mc),(bo,n,c),x,cl,.iface 379 (.agg #[q])] w λe w'=>PlaceW w' w.heap.size 228 p n S x cl q e/\Below w.heap.size w w':=by
 have L:=hI hl;have HX:=hI hx;have Y:=hI hz;have a0:=hI E;clear hl hx hz E;have b2:∀ (fn) (first cap) (w),(Instr.makeFunc fn _ cap).run prog w=.ok (.func fn first cap) w:=λ_ _ _ _=>rfl
 have k1:=nilW;have k3:=methW;go_enter func295,ntmps295;go_wp2_with fail;refine(zbh ao bo m mc n c p S _ L hm hn hc HX Y).mono ?_;rintro e w1 ⟨Q,g⟩
 rcases Q with⟨U,rfl⟩|⟨T,rfl⟩
 ·have X:=hI (zct.1 U)
  clear U;unfold six;have b1:m<=6:=by rw[← L.out];exact X.1.1
  by_cases g1:In x 1 9999
  ·have e1:=Jd g1
   have H1:=hI g1;clear g1
   by_cases g2:Has (ZV S) n x
   ·have e2:=Jd ((QC _ _ _).2 g2)
    have H2:=hI g2;clear g2;go_wp2_with (first|(go_at_call 102;refine sC (Qg _ _) ?_)|(go_at_call 244;refine(QF bo n c S x _ hn (Y.below (zk g _))).mono ?_;rintro e w2 ⟨rfl,r⟩))
    exact Jj (by simp[results,results295,go_sem]) rfl ⟨.inr ⟨λk h=>h.1.2.1 H2,rfl⟩,ze (zk g _) r⟩
   ·have e2:=Jc (λh=>g2 ((QC _ _ _).1 h))
    have H2:=hI g2;clear g2;have A:Hid ((w1.alloc _).rowIs _ 323 6 (λk=>.int _ (Zl p S n k))):=row6W (Jb w1 _)
    have G:Hid (Below _ w (w1.alloc (.cells #[(Zl p S n 0),(Zl p S n 1),(Zl p S n 2),(Zl p S n 3),(Zl p S n 4),(Zl p S n 5)] 323))):=zk g _;have a2:=g.size;go_upto_region 4 with(first|(go_at_call 102;refine sC (Qg _ _) ?_)|(go_at_call 244;refine(QF bo n c S x _ hn (Y.below G)).mono ?_;rintro e w2 ⟨rfl,r⟩))
    have l:=qo A r;have D:=ze G r;generalize w1.heap.size=f at a2 l ⊢;clear A G r g e1 e2;go_wp2;go_loopw [15,16,17,18,40] (λ_ _ _ _ i wr=>∃ k,k<=m/\i=int i64 k/\(∀ j,j<k->¬ HadW p n S cl q j)/\wr.rowIs f 323 6 (λj=>int i64 (Zl p S n j))/\Below w.heap.size w wr) (λ_ _ _ _ i _=>m - (intOf i).toNat)
    case atStart=>exact⟨0,Jq _,rfl,λj hj=>by omega,l,D⟩
    case round =>
     obtain⟨k,hk,rfl,C,F,d⟩:=hrel;have V:=hI C;clear C l D
     by_cases hlt:k<m
     ·obtain⟨b,off,rfl,h1,h2⟩:=HX k (by rw[L.out];exact hlt)
      have hb:=Ja w _ h1;have c1:=(d.cell hb).trans h1;have c2:=(d.cell (p:=⟨b,_+1,_⟩) hb).trans h2;have Z:=Jb wr (.cells #[(p.A k),(p.B k)] 231);have y:=zk d (.cells #[(p.A k),(p.B k)] 231);have z:=qo F (zk (Ji _ wr) (.cells #[(p.A k),(p.B k)] 231));clear h1 h2;go_upto_region 7 with fail;generalize hW:wr.alloc _=W at Z y z ⊢;clear hW;have b3:=zM Z;have a9:=z.lt;have b4:=y.size;have N:=hI Z;have J:=hI z;have I:=hI y;generalize wr.heap.size=cb at *;have i1:(0:Int)<=(k:Int):=by omega
      have i3:(k:Int)<6:=by omega
      have u:Hid (∀ w',Below _ W w'->(w'.cell? _=some (.int _ _)/\w'.cell? _=some (.int _ _)/\w'.cell? _=_)):=λw' h=>⟨za (zb N h) 0 _ rfl,za (zb N h) 1 _ rfl,by
       have:=(qo J h).cell (i:=k) (by omega)
       rw[this,zcN (by rw[L.out];exact hlt)]⟩
      obtain⟨P,K⟩:∃ P,P=decide (Za p S n k=p.B k/\q<=p.B k):=⟨_,rfl⟩;have O:=hI K;have R:Hid (∀ w0,Calls _ 336 #[_,.agg #[.int _ (p.A k),_],_] w0 λe w'=>e=.returned (.tuple #[_,P])/\_):=λw0=>by rw[K];exact zgR _ _ _ _ w0
      clear c1 c2 Z y z F d K;go_cut [17,18] (λa5 a6 wc=>∃ B,a5=.pointer (some (B,0))/\a6=.bool P/\wc.heap[B]?=some (.cells #[(),(),(p.B k),.bool true] 228 (0,0))/\W.heap.size<=B/\Below W.heap.size W wc)
      case first =>
       go_region_held3 (λw'=>w'.cell? (cb,0)=some (p.A k)/\w'.cell? (cb,1)=some (p.B k)/\w'.cell? (f,k)=some (Za p S n k))
        ((refine u _ ?_;(repeat(first|exact bZ|refine Jh ?_|refine zk ?_ _|refine setI ?_ (by omega) _|refine ze ?_ s))))
        (first|(go_at_call 336;refine Jm (R _) ?_;rintro e w4 ⟨rfl,s⟩;have s4:W.heap.size<=w4.heap.size:=(by have:=s.size;first|omega|(simp at this;omega));(first|(have a:w4.heap[W.heap.size]?=_:=zb (Jb W.drew (.cells _ 228)) s;have y0:=za a 0 _ rfl;have y1:=za a 1 _ rfl;have y2:=za a 2 _ rfl;have y3:=za a 3 _ rfl;have f0:=zg a 0;have f1:=zg a 1;have f2:=zg a 2;have f3:=zg a 3)|skip)))
       all_goals
        go_wp2;go_meet
        first|exact⟨_,rfl,rfl,Jb w4 _,s4,(by(repeat(first|exact bZ|refine Jh ?_|refine zk ?_ _|refine setI ?_ (by omega) _|refine ze ?_ s)))⟩|exact⟨_,rfl,rfl,rec4W a _ _ _ _,Jr _,(by(repeat(first|exact bZ|refine Jh ?_|refine zk ?_ _|refine setI ?_ (by omega) _|refine ze ?_ s)))⟩
      case rest =>
      obtain⟨B,rfl,rfl,t,a7,o⟩:=hcut;have a8:=(u _ o).1
      by_cases g3:p.A k=cl
      ·have e3:(p.A k == cl)=true:=by simpa using g3
       have H3:=hI g3;clear g3
       cases P with
       | true =>
        have h4:=Js O.symm;have M:=hI h4;clear h4;obtain⟨o0,o1,o2,o3⟩:=ce4 t;have f0:=zg t 0;have f1:=zg t 1;have H:Hid (Below _ w ((wc.setCell (B,0) x).setCell (B,1) (k:Int))):=((ze I o).setCell (by show w.heap.size<=B;omega) _).setCell (by show w.heap.size<=B;omega) _
        go_wp2_with (first|(go_at_call 298;refine Jm (zgT bo n c S ⟨x,(k:Int),p.B k,_⟩ _ hn (Y.below H) a0) ?_;rintro e w5 ⟨⟨v,rfl,a3⟩,a1⟩))
        have a4:=H.size;exact Jj (by simp[results,results295,go_sem]) rfl ⟨.inl ⟨k,v,⟨X,H2,H1⟩,⟨by rw[L.out];exact hlt,⟨H3,M⟩,V⟩,rfl,zu a3 a4⟩,ze H a1⟩
       | false =>
        have M:Hid (¬ HadW p n S cl q k):=λh=>of_decide_eq_false O.symm h.2
        go_wp2;go_roundw
        case rel=>exact⟨k+1,by omega,by go_num,λj hj=>by
         by_cases e:j=k
         ·subst e;exact M
         ·exact V j (by omega),qo J o,ze I o⟩
        case measure=>simp[intOf];omega
      ·have e3:(p.A k == cl)=false:=by simpa using g3
       have M:Hid (¬ HadW p n S cl q k):=λh=>g3 h.1
       clear g3;go_wp2;go_roundw
       case rel=>exact⟨k+1,by omega,by go_num,λj hj=>by
        by_cases e:j=k
        ·subst e;exact M
        ·exact V j (by omega),qo J o,ze I o⟩
       case measure=>simp[intOf];omega
     ·obtain rfl:k=m:=by omega
      go_wp2;exact Jj (by simp[results,results295,go_sem]) rfl ⟨.inr ⟨λj h=>V j (by have:=h.2.1;rw[L.out] at this;exact this) h.2.2.1,rfl⟩,d⟩
  ·have e1:=Jc g1
   have H1:=hI g1;clear g1;go_wp2_with (first|(go_at_call 102;refine sC (Qg _ _) ?_))
   exact Jj (by simp[results,results295,go_sem]) rfl ⟨.inr ⟨λk h=>H1 h.1.2.2,rfl⟩,zk g _⟩
 ·have X:Hid (¬ _):=λh=>T (zct.2 h)
  clear T;unfold six;go_wp2;exact Jj (by simp[results,results295,go_sem]) rfl ⟨.inr ⟨λk h=>X h.1.1,rfl⟩,zk g _⟩
attribute [local go_sem ↓] Go.wp_at_zero Go.wp_at_succ
def MayB (p:zH)(n:Nat)(S:Nat->qN)(x:Int):Prop:=Qr p n S/\¬ Has (ZV S) n x/\In x 1 9999
def HadB (p:zH)(n:Nat)(S:Nat->qN)(cl q:Int)(j:Nat):Prop:=p.A j=cl/\(In q 1 (Za p S n j))
def PlaceB (w':World)(base t:Nat)(p:zH)(n:Nat)(S:Nat->qN)(x cl q:Int)(e:Ending):Prop :=
 (∃ k v,MayB p n S x/\ZH p.n (HadB p n S cl q) k/\e=.returned (.tuple #[v,(k:Int),.bool true])/\w'.ownsRow base t 4 v (n+1) (zw (ZE S n (λ_=>⟨x,(k:Int),q,false⟩)) (n+1))) ∨
 ((∀ k,¬ (MayB p n S x/\ZH p.n (HadB p n S cl q) k))/\e=.returned (.tuple #[True,(),.bool false]))
theorem rec4B {w:World}{g t:Nat}{u0 u1 u2 u3:Value}(h:w.heap[g]?=some (.cells #[u0,u1,u2,u3] t (0,0)))(v0 v1 v2 v3:Value) :
  ((((w.setCell (g,0) v0).setCell (g,1) v1).setCell (g,2) v2).setCell (g,3) v3).heap[g]?=some (.cells #[v0,v1,v2,v3] t (0,0)):=by
 have:=zm (zm (zm (zm h 0 v0) 1 v1) 2 v2) 3 v3
 simpa using this
theorem row6B {w:World}{g t:Nat}{F:Nat->Int}(h:w.heap[g]?=some (.cells #[(F 0),(F 1),(F 2),(F 3),(F 4),(F 5)] t (0,0))):w.rowIs g t 6 (λk=>int i64 (F k)):=by
 refine⟨_,h,rfl,λi hi=>?_⟩
 have:i=0∨i=1∨i=2∨i=3∨i=4∨i=5:=by omega
 rcases this with rfl|rfl|rfl|rfl|rfl|rfl <;> rfl
theorem znv (ao bo:Option Addr)(m mc n c:Nat)(p:zH)(S:Nat->qN)(x cl q:Int)(w:World)(hl:p.n=m)(hm:m<=1048576)(hn:n<=1048576)(hc:n<=c)(hx:zG w ao p)(hz:qp w bo n S)(E:bo=none->n=0/\c=0) :
  Calls prog 295 #[(ao,m,mc),(bo,n,c),x,cl,.iface 381 (.agg #[q])] w λe w'=>PlaceB w' w.heap.size 228 p n S x cl q e/\Below w.heap.size w w':=by
 have L:=hI hl;have HX:=hI hx;have Y:=hI hz;have a0:=hI E;clear hl hx hz E;have b2:∀ (fn) (first cap) (w),(Instr.makeFunc fn _ cap).run prog w=.ok (.func fn first cap) w:=λ_ _ _ _=>rfl
 have k1:=nilB;have k3:=methB;go_enter func295,ntmps295;go_wp2_with fail;refine(zbh ao bo m mc n c p S _ L hm hn hc HX Y).mono ?_;rintro e w1 ⟨Q,g⟩
 rcases Q with⟨U,rfl⟩|⟨T,rfl⟩
 ·have X:=hI (zct.1 U)
  clear U;unfold six;have b1:m<=6:=by rw[← L.out];exact X.1.1
  by_cases g1:In x 1 9999
  ·have e1:=Jd g1
   have H1:=hI g1;clear g1
   by_cases g2:Has (ZV S) n x
   ·have e2:=Jd ((QC _ _ _).2 g2)
    have H2:=hI g2;clear g2;go_wp2_with (first|(go_at_call 102;refine sC (Qg _ _) ?_)|(go_at_call 244;refine(QF bo n c S x _ hn (Y.below (zk g _))).mono ?_;rintro e w2 ⟨rfl,r⟩))
    exact Jj (by simp[results,results295,go_sem]) rfl ⟨.inr ⟨λk h=>h.1.2.1 H2,rfl⟩,ze (zk g _) r⟩
   ·have e2:=Jc (λh=>g2 ((QC _ _ _).1 h))
    have H2:=hI g2;clear g2;have A:Hid ((w1.alloc _).rowIs _ 323 6 (λk=>.int _ (Zl p S n k))):=row6B (Jb w1 _)
    have G:Hid (Below _ w (w1.alloc (.cells #[(Zl p S n 0),(Zl p S n 1),(Zl p S n 2),(Zl p S n 3),(Zl p S n 4),(Zl p S n 5)] 323))):=zk g _;have a2:=g.size;go_upto_region 4 with(first|(go_at_call 102;refine sC (Qg _ _) ?_)|(go_at_call 244;refine(QF bo n c S x _ hn (Y.below G)).mono ?_;rintro e w2 ⟨rfl,r⟩))
    have l:=qo A r;have D:=ze G r;generalize w1.heap.size=f at a2 l ⊢;clear A G r g e1 e2;go_wp2;go_loopw [15,16,17,18,40] (λ_ _ _ _ i wr=>∃ k,k<=m/\i=int i64 k/\(∀ j,j<k->¬ HadB p n S cl q j)/\wr.rowIs f 323 6 (λj=>int i64 (Zl p S n j))/\Below w.heap.size w wr) (λ_ _ _ _ i _=>m - (intOf i).toNat)
    case atStart=>exact⟨0,Jq _,rfl,λj hj=>by omega,l,D⟩
    case round =>
     obtain⟨k,hk,rfl,C,F,d⟩:=hrel;have V:=hI C;clear C l D
     by_cases hlt:k<m
     ·obtain⟨b,off,rfl,h1,h2⟩:=HX k (by rw[L.out];exact hlt)
      have hb:=Ja w _ h1;have c1:=(d.cell hb).trans h1;have c2:=(d.cell (p:=⟨b,_+1,_⟩) hb).trans h2;have Z:=Jb wr (.cells #[(p.A k),(p.B k)] 231);have y:=zk d (.cells #[(p.A k),(p.B k)] 231);have z:=qo F (zk (Ji _ wr) (.cells #[(p.A k),(p.B k)] 231));clear h1 h2;go_upto_region 7 with fail;generalize hW:wr.alloc _=W at Z y z ⊢;clear hW;have b3:=zM Z;have a9:=z.lt;have b4:=y.size;have N:=hI Z;have J:=hI z;have I:=hI y;generalize wr.heap.size=cb at *;have i1:(0:Int)<=(k:Int):=by omega
      have i3:(k:Int)<6:=by omega
      have u:Hid (∀ w',Below _ W w'->(w'.cell? _=some (.int _ _)/\w'.cell? _=some (.int _ _)/\w'.cell? _=_)):=λw' h=>⟨za (zb N h) 0 _ rfl,za (zb N h) 1 _ rfl,by
       have:=(qo J h).cell (i:=k) (by omega)
       rw[this,zcN (by rw[L.out];exact hlt)]⟩
      obtain⟨P,K⟩:∃ P,P=decide (In q 1 (Za p S n k)):=⟨_,rfl⟩;have O:=hI K;have R:Hid (∀ w0,Calls _ 337 #[_,.agg #[.int _ (p.A k),.int _ (p.B k)],_] w0 λe w'=>e=.returned (.tuple #[_,P])/\_):=λw0=>by rw[K];exact zgQ _ _ _ _ w0
      clear c1 c2 Z y z F d K;go_cut [17,18] (λa5 a6 wc=>∃ B,a5=.pointer (some (B,0))/\a6=.bool P/\wc.heap[B]?=some (.cells #[(),(),(q),.bool false] 228 (0,0))/\W.heap.size<=B/\Below W.heap.size W wc)
      case first =>
       go_region_held3 (λw'=>w'.cell? (cb,0)=some (p.A k)/\w'.cell? (cb,1)=some (p.B k)/\w'.cell? (f,k)=some (Za p S n k))
        ((refine u _ ?_;(repeat(first|exact bZ|refine Jh ?_|refine zk ?_ _|refine setI ?_ (by omega) _|refine ze ?_ s))))
        (first|(go_at_call 337;refine Jm (R _) ?_;rintro e w4 ⟨rfl,s⟩;have s4:W.heap.size<=w4.heap.size:=(by have:=s.size;first|omega|(simp at this;omega));(first|(have a:w4.heap[W.heap.size]?=_:=zb (Jb W.drew (.cells _ 228)) s;have y0:=za a 0 _ rfl;have y1:=za a 1 _ rfl;have y2:=za a 2 _ rfl;have y3:=za a 3 _ rfl;have f0:=zg a 0;have f1:=zg a 1;have f2:=zg a 2;have f3:=zg a 3)|skip)))
       all_goals
        go_wp2;go_meet
        first|exact⟨_,rfl,rfl,Jb w4 _,s4,(by(repeat(first|exact bZ|refine Jh ?_|refine zk ?_ _|refine setI ?_ (by omega) _|refine ze ?_ s)))⟩|exact⟨_,rfl,rfl,rec4B a _ _ _ _,Jr _,(by(repeat(first|exact bZ|refine Jh ?_|refine zk ?_ _|refine setI ?_ (by omega) _|refine ze ?_ s)))⟩
      case rest =>
      obtain⟨B,rfl,rfl,t,a7,o⟩:=hcut;have a8:=(u _ o).1
      by_cases g3:p.A k=cl
      ·have e3:(p.A k == cl)=true:=by simpa using g3
       have H3:=hI g3;clear g3
       cases P with
       | true =>
        have h4:=Js O.symm;have M:=hI h4;clear h4;obtain⟨o0,o1,o2,o3⟩:=ce4 t;have f0:=zg t 0;have f1:=zg t 1;have H:Hid (Below _ w ((wc.setCell (B,0) x).setCell (B,1) (k:Int))):=((ze I o).setCell (by show w.heap.size<=B;omega) _).setCell (by show w.heap.size<=B;omega) _
        go_wp2_with (first|(go_at_call 298;refine Jm (zgT bo n c S ⟨x,(k:Int),q,_⟩ _ hn (Y.below H) a0) ?_;rintro e w5 ⟨⟨v,rfl,a3⟩,a1⟩))
        have a4:=H.size;exact Jj (by simp[results,results295,go_sem]) rfl ⟨.inl ⟨k,v,⟨X,H2,H1⟩,⟨by rw[L.out];exact hlt,⟨H3,M⟩,V⟩,rfl,zu a3 a4⟩,ze H a1⟩
       | false =>
        have M:Hid (¬ HadB p n S cl q k):=λh=>of_decide_eq_false O.symm h.2
        go_wp2;go_roundw
        case rel=>exact⟨k+1,by omega,by go_num,λj hj=>by
         by_cases e:j=k
         ·subst e;exact M
         ·exact V j (by omega),qo J o,ze I o⟩
        case measure=>simp[intOf];omega
      ·have e3:(p.A k == cl)=false:=by simpa using g3
       have M:Hid (¬ HadB p n S cl q k):=λh=>g3 h.1
       clear g3;go_wp2;go_roundw
       case rel=>exact⟨k+1,by omega,by go_num,λj hj=>by
        by_cases e:j=k
        ·subst e;exact M
        ·exact V j (by omega),qo J o,ze I o⟩
       case measure=>simp[intOf];omega
     ·obtain rfl:k=m:=by omega
      go_wp2;exact Jj (by simp[results,results295,go_sem]) rfl ⟨.inr ⟨λj h=>V j (by have:=h.2.1;rw[L.out] at this;exact this) h.2.2.1,rfl⟩,d⟩
  ·have e1:=Jc g1
   have H1:=hI g1;clear g1;go_wp2_with (first|(go_at_call 102;refine sC (Qg _ _) ?_))
   exact Jj (by simp[results,results295,go_sem]) rfl ⟨.inr ⟨λk h=>H1 h.1.2.2,rfl⟩,zk g _⟩
 ·have X:Hid (¬ _):=λh=>T (zct.2 h)
  clear T;unfold six;go_wp2;exact Jj (by simp[results,results295,go_sem]) rfl ⟨.inr ⟨λk h=>X h.1.1,rfl⟩,zk g _⟩
def zfs (p:zH)(cl q:Int):Prop:=∃ j,j<p.n/\p.A j=cl/\q<=p.B j
theorem zkA (n:Option Addr)(m v:Nat)(p:zH)(cl q:Int)(w:World)(r:p.n=m)(hm:m<=1048576)(u:zG w n p) :
  Calls prog 296 #[(n,m,v),cl,q] w λe w'=>(∃ lst:Int,e=.returned (.iface 379 (.agg #[lst]))/\((lst=q/\zfs p cl q)∨(lst=0/\¬ zfs p cl q)))/\Below w.heap.size w w':=by
 have l:=hI r;clear r;go_enter func296,ntmps296;go_wp2;go_loopw [8,11] (λ_ i wr=>∃ k,k<=m/\i=int i64 k/\(∀ j,j<k->¬ (p.A j=cl/\q<=p.B j))/\Below w.heap.size w wr) (λ_ i _=>m - (intOf i).toNat)
 case atStart=>exact⟨0,Jq _,rfl,λj f=>by omega,bZ⟩
 case round =>
  obtain⟨k,hk,rfl,c,a⟩:=hrel;have g:=hI c;clear c
  by_cases hlt:k<m
  ·obtain⟨b,off,rfl,h1,h2⟩:=u k (by rw[l.out];omega)
   have o:=Ja w _ h1;have c1:=(a.cell o).trans h1;have c2:=(a.cell (p:=⟨b,_+1,_⟩) o).trans h2;clear h1 h2
   by_cases g1:p.A k=cl
   ·have s:(p.A k == cl)=true:=by simpa using g1
    by_cases g2:q<=p.B k
    ·have t:=Jd g2
     have d:Hid (zfs p cl q):=⟨k,by rw[l.out];exact hlt,g1,g2⟩
     clear g1 g2;go_wp2;go_ret;exact⟨⟨q,rfl,.inl ⟨rfl,d⟩⟩,zk a _⟩
    ·have t:=Jc g2
     have d:Hid (¬ (p.A k=cl/\_)):=λh=>g2 h.2
     clear g1 g2;go_wp2;go_roundw
     case rel=>exact⟨k+1,by omega,by go_num,λj f=>by
      by_cases e:j=k
      ·subst e;exact d
      ·exact g j (by omega),zk a _⟩
     case measure=>simp[intOf];omega
   ·have s:(p.A k == cl)=false:=by simpa using g1
    have d:Hid (¬ (_/\q<=p.B k)):=λh=>g1 h.1
    clear g1;go_wp2;go_roundw
    case rel=>exact⟨k+1,by omega,by go_num,λj f=>by
     by_cases e:j=k
     ·subst e;exact d
     ·exact g j (by omega),zk a _⟩
    case measure=>simp[intOf];omega
  ·obtain rfl:k=m:=by omega
   have d:Hid (¬ zfs p cl q):=λ⟨j,f,h⟩=>g j (by rw[l.out] at f;exact f) h
   go_wp2;go_ret;exact⟨⟨0,rfl,.inr ⟨rfl,d⟩⟩,a⟩
end Go.Proofs.YtmdnjgihooflfaaGreatDoor
