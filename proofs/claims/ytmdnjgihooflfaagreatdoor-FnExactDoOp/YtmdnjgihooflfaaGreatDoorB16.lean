/-
  OWN TEXT: ImplLane, FreeI, ConcatStay, PlaceI, RoomIn, StandsI, RoomOf.
-/
import Derived.Deep.LoopGhost
import Derived.Lib.AppendZeros
import Derived.Deep.DrawnRows
import Derived.Test.YtmdnjgihooflfaaGreatDoorB15
namespace Go.Proofs.YtmdnjgihooflfaaGreatDoor
open Go.RowKit
open Go.Value (int)
open Go.IntKind (i64)
open Tryz
set_option maxHeartbeats 64000000
set_option maxRecDepth 100000
theorem zeD (o:Option Addr)(n c:Nat)(p:zH)(w:World)(s:p.n=n)(hn:n<=1048576)(v:zG w o p) :
  Calls prog 234 #[(o,n,c)] w λe w'=>qX (zaZ p 4 1 5000 100 500) e/\Below w.heap.size w w':=by
 have f:=hI s;clear s
 by_cases h0:n<=4
 ·have q:decide (4<n)=false:=by simp;omega
  go_enter func234,ntmps234;go_wp2;go_loopw [4,10] (λ_ i wr=>∃ k,k<=n/\i=int i64 k/\(∀ j,j<k->In (p.A j) 1 5000/\In (p.B j) 100 500)/\Below w.heap.size w wr) (λ_ i _=>n - (intOf i).toNat)
  case atStart=>exact⟨0,Jq _,rfl,λj l=>by omega,bZ⟩
  case round =>
   obtain⟨k,hk,rfl,d,a⟩:=hrel;have m:=hI d;clear d q
   by_cases hlt:k<n
   ·obtain⟨b,off,rfl,h1,h2⟩:=v k (by rw[f.out];omega)
    have r:=Ja w _ h1;have c1:=(a.cell r).trans h1;have c2:=(a.cell (p:=⟨b,_+1,_⟩) r).trans h2;clear h1 h2
    by_cases g1:In (p.A k) 1 5000
    ·have t:=Jd g1
     by_cases g2:In (p.B k) 100 500
     ·have u:=Jd g2
      have g:Hid (_/\_):=⟨g1,g2⟩;clear g1 g2;go_wp2_with (first|(go_at_call 191;refine sC (zz _ _ _ _) ?_))
      go_roundw
      case rel=>exact⟨k+1,by omega,by go_num,λj l=>by
       by_cases e:j=k
       ·subst e;exact g
       ·exact m j (by omega),zk a _⟩
      case measure=>simp[intOf];omega
     ·have u:=Jc g2
      have g:=hI g2;clear g1 g2;go_wp2_with (first|(go_at_call 191;refine sC (zz _ _ _ _) ?_))
      go_ret;exact⟨zl (λh=>g (h.2 k (by rw[f.out];exact hlt)).2),zk a _⟩
    ·have t:=Jc g1
     have g:=hI g1;clear g1;go_wp2_with (first|(go_at_call 191;refine sC (zz _ _ _ _) ?_))
     go_ret;exact⟨zl (λh=>g (h.2 k (by rw[f.out];exact hlt)).1),zk a _⟩
   ·obtain rfl:k=n:=by omega
    go_wp2;go_ret;exact⟨zR ⟨by rw[f.out];exact h0,λj l=>m j (by rw[f.out] at l;exact l)⟩,a⟩
 ·have q:decide (4<n)=true:=by simp;omega
  go_enter func234,ntmps234;go_wp2;go_ret;exact⟨zl (λh=>by have:=h.1;rw[f.out] at this;exact h0 this),bZ⟩
def zmH (F:Nat->Int):Value:=.agg #[(F 0),(F 1),(F 2),(F 3)]
def zlX (p:zH)(n:Nat)(S:Nat->Zp)(e:Ending):Prop :=
 (zfj p n S/\e=.returned (.tuple #[zmH (qy p S n),.bool true]))∨(¬ zfj p n S/\e=.returned (.tuple #[zmH (λ_=>0),.bool false]))
theorem zeE {w:World}{g t:Nat}{u0 u1 u2 u3:Value}(h:w.heap[g]?=some (.cells #[u0,u1,u2,u3] t (0,0)))(v0 v1 v2 v3:Value) :
  ((((w.setCell (g,0) v0).setCell (g,1) v1).setCell (g,2) v2).setCell (g,3) v3).heap[g]?=some (.cells #[v0,v1,v2,v3] t (0,0)):=by
 have:=zm (zm (zm (zm h 0 v0) 1 v1) 2 v2) 3 v3
 simpa using this
theorem zcx {w w':World}{g:Nat}(h:Below w.heap.size w w')(a:w.heap.size<=g)(v0 v1 v2 v3:Value):Below w.heap.size w ((((w'.setCell (g,0) v0).setCell (g,1) v1).setCell (g,2) v2).setCell (g,3) v3) :=
 (((h.setCell a _).setCell a _).setCell a _).setCell a _
theorem zero_row {w:World}{g t:Nat}(h:w.heap[g]?=some (.cells #[(),(),(),()] t (0,0))):w.rowIs g t 4 (λk=>int i64 (zbJ 0 (λ_=>(0:Int)) 0 k)):=by
 refine⟨_,h,rfl,λi hi=>?_⟩
 have:i=0∨i=1∨i=2∨i=3:=by omega
 rcases this with rfl|rfl|rfl|rfl <;> rfl
theorem zee (ao bo:Option Addr)(m mc n c:Nat)(p:zH)(S:Nat->Zp)(w:World)(X:p.n=m)(hm:m<=1048576)(hn:n<=1048576)(hc:n<=c)(hx:zG w ao p)(hz:qw w bo n S) :
  Calls prog 236 #[(ao,m,mc),(bo,n,c)] w λe w'=>zlX p n S e/\Below w.heap.size w w':=by
 have P:=hI X;have HX:=hI hx;have HZ:=hI hz;clear X hx hz;have D:Below _ w (w.alloc (.cells #[(),(),(),()] 319)):=zk bZ _;have r0:=zoP D;go_enter func236,ntmps236;go_wp2_with fail;refine(zeD ao m mc p _ P hm (HX.below D)).mono ?_;rintro e w1 ⟨⟨q,rfl,hq⟩,R⟩;have C:=ze D R;have L:=zb r0 R;clear D r0 R
 cases q with
 | false =>
  obtain⟨o0,o1,o2,o3⟩:=ce4 L;obtain⟨f0,f1,f2,f3⟩:=fe4 L;have Z:Hid (¬ zhB p):=λh=>by have:=hq.2 h;cases this
  clear hq;go_wp2;have M:=zeE L () () () ();obtain⟨H,I,J,K⟩:=ce4 M;exact Jj (by simp[results,results236,go_sem,H,I,J,K,zmH]) rfl ⟨.inr ⟨λh=>Z h.1,rfl⟩,zcx C (Jr _) _ _ _ _⟩
 | true =>
  have Z:Hid (zhB p):=hq.1 rfl;have a4:m<=4:=by rw[← P.out];exact Z.1
  clear hq
  by_cases h60:n<=60
  ·have d0:decide (60<n)=false:=by simp;omega
   go_upto_region 4 with fail;have r2:=zd L (.cells #[(),(),(),()] 319);have x2:=zero_row (Jb w1 (.cells _ 319));have Q:=zk C (.cells #[(),(),(),()] 319);have hf:=zM L;generalize w1.alloc _=w2 at r2 x2 Q ⊢;generalize w1.heap.size=f at hf x2 ⊢;clear L C;go_wp2;go_loopw [7,21] (λ_ i wr=>∃ k,k<=m/\i=int i64 k/\wr.rowIs f 319 4 (λj=>int i64 (zbJ k p.A 0 j))/\wr.heap[w.heap.size]?=some (.cells #[(),(),(),()] 319 (0,0))/\Below w.heap.size w wr) (λ_ i _=>m - (intOf i).toNat)
   case atStart=>exact⟨0,Jq _,rfl,x2.congr (λj _=>by unfold zbJ;rw[Je (Nat.not_lt_zero _),Je (Nat.not_lt_zero _)]),r2,Q⟩
   case round =>
    obtain⟨k,hk,rfl,t,hr,x⟩:=hrel;clear r2 x2 Q
    by_cases hlt:k<m
    ·obtain⟨b,off,rfl,h1,h2⟩:=HX k (by rw[P.out];exact hlt)
     have V:=Ja w _ h1;have c1:=(x.cell V).trans h1;have o0:=t.cell (i:=k) (by omega)
     have f0:=t.frozen k;have i1:(0:Int)<=(k:Int):=by omega
     have i2:(k:Int)<4:=by omega
     clear h1 h2;go_wp2;go_roundw
     case rel=>exact⟨k+1,by omega,by go_num,(t.set k _).congr (λj _=>by
      by_cases e:j=k
      ·subst e;rw[Jf rfl,qr _ _ (Nat.lt_succ_self _)]
      ·rw[Je e,QB _ _ _ _ e]),zD hr _ _ (by omega),x.setCell (by show w.heap.size<=f;omega) _⟩
     case measure=>simp[intOf];omega
    ·obtain rfl:k=m:=by omega
     have z:wr.rowIs f 319 4 (λj=>.int _ (qy p S 0 j)):=t.congr (λj _=>by rw[freeAt_0,P.out])
     clear t;go_wp2;go_loopw [8,9,34] (λ_ _ i wr=>∃ k,k<=n/\i=int i64 k/\(∀ j,j<k->¬ Has (Qc S) j (S j).who/\zmC p (QW p S j) (S j))/\wr.rowIs f 319 4 (λj=>int i64 (qy p S k j))/\wr.heap[w.heap.size]?=some (.cells #[(),(),(),()] 319 (0,0))/\Below w.heap.size w wr) (λ_ _ i _=>n - (intOf i).toNat)
     case atStart=>exact⟨0,Jq _,rfl,λj hj=>by omega,z,hr,x⟩
     case round =>
      obtain⟨i,hi,rfl,O,d,y,a⟩:=hrel;have HA:=hI O;clear O z hr x
      by_cases hlt2:i<n
      ·obtain⟨b,off,rfl,h0,h1,h2,h3⟩:=HZ i hlt2
       have V:=Ja w _ h0;have c0:=(a.cell V).trans h0;have c1:=(a.cell (p:=⟨b,_+1,_⟩) V).trans h1;have c2:=(a.cell (p:=⟨b,_+2,_⟩) V).trans h2;have c3:=(a.cell (p:=⟨b,_+3,_⟩) V).trans h3;have o:=Jb wr (.cells #[(S i).who,(S i).ln,(S i).len,(S i).hei] 220);have r:=zk a (.cells #[(S i).who,(S i).ln,(S i).len,(S i).hei] 220);have A:=zd y (.cells #[(S i).who,(S i).ln,(S i).len,(S i).hei] 220);have u:=qo d (zk (Ji _ wr) (.cells #[(S i).who,(S i).ln,(S i).len,(S i).hei] 220));clear h0 h1 h2 h3;go_upto_region 12 with fail;generalize hW:wr.alloc _=W at o r A u ⊢;clear hW;have F:=zM o;have E:=u.lt;have a3:=hI u;have z0:∀ g:zn W,g.val.cell? _=some (.int _ _):=λg=>(g.bel.cell F).trans (za o 0 _ rfl)
       have z1:∀ g:zn W,g.val.cell? _=some (.int _ _):=λg=>(g.bel.cell F).trans (za o 1 _ rfl)
       have z2:∀ g:zn W,g.val.cell? _=some (.int _ _):=λg=>(g.bel.cell F).trans (za o 2 _ rfl)
       have z3:∀ g:zn W,g.val.cell? _=some (.int _ _):=λg=>(g.bel.cell F).trans (za o 3 _ rfl)
       have y0:∀ g:zn W,_:=λg=>(g.bel.cell E).trans (u.cell (i:=0) (by omega))
       have y1:∀ g:zn W,_:=λg=>(g.bel.cell E).trans (u.cell (i:=1) (by omega))
       have y2:∀ g:zn W,_:=λg=>(g.bel.cell E).trans (u.cell (i:=2) (by omega))
       have y3:∀ g:zn W,_:=λg=>(g.bel.cell E).trans (u.cell (i:=3) (by omega))
       have i1:(0:Int)<=(i:Int):=by omega
       have i2:(i:Int)<=(c:Int):=by omega
       clear c0 c1 c2 c3 o d y a u
       by_cases hh:Has (Qc S) i (S i).who
       ·have e1:=Jd ((QC _ _ _).2 hh)
        have HH:=hI hh;clear hh;refine zh (by kernel_rfl) (by kernel_rfl) ?_
        repeat(first|go_big_quiet_skip|(go_big_quiet_want;go_big_quiet_op;first|go_big_quiet_on|(apply Jg;refine⟨λg=>?_,?_⟩;(focus(first|(go_at_call 243;refine zf (v:=int i64 (Zv (Qc S) (S i).who i)) ((zbz _ i c S _ _ (by omega) ((HZ.upto (by omega)).below (ze r g.bel))).mono ?_);rintro e w4 ⟨rfl,s⟩;exact⟨rfl,s⟩)));go_big_quiet_on)))
        refine Jl ?_;rintro _ ⟨g,rfl⟩;have U:=zb A g.bel;obtain⟨o0,o1,o2,o3⟩:=ce4 U;obtain⟨f0,f1,f2,f3⟩:=fe4 U;go_wp2;have M:=zeE U () () () ();obtain⟨H,I,J,K⟩:=ce4 M;exact Jj (by simp[results,results236,go_sem,H,I,J,K,zmH]) rfl ⟨.inr ⟨λh=>(h.2.2 i hlt2).1 HH,rfl⟩,zcx (ze r g.bel) (Jr _) _ _ _ _⟩
       ·have e1:=Jc (λh=>hh ((QC _ _ _).1 h))
        have HH:=hI hh;clear hh
        by_cases hfit:zmC p (qy p S i) (S i)
        ·have B:=hI hfit
         clear hfit;refine zh (by kernel_rfl) (by kernel_rfl) ?_
         repeat(first|go_big_quiet_skip|(go_big_quiet_want;go_big_quiet_op;first|go_big_quiet_on|(apply Jg;refine⟨λg=>?_,?_⟩;(focus(first|(go_at_call 243;refine zf (v:=int i64 (Zv (Qc S) (S i).who i)) ((zbz _ i c S _ _ (by omega) ((HZ.upto (by omega)).below (ze r g.bel))).mono ?_);rintro e w4 ⟨rfl,s⟩;exact⟨rfl,s⟩)|(go_at_call 264;refine zf (v:=.bool true) ((zfp _ _ mc p _ _ _ _ _ _ P a4 (HX.below (ze r g.bel))).mono ?_);rintro e w4 ⟨⟨bb,rfl,hi⟩,s⟩;obtain rfl:=hi.2 B;exact⟨rfl,s⟩)));go_big_quiet_on)))
         refine Jl ?_;rintro _ ⟨g,rfl⟩;obtain⟨l,X⟩:∃ l:Nat,(S i).ln=l:=⟨(S i).ln.toNat,by have:=B.ln;unfold In at this;omega⟩
         have a7:l<p.n:=by have:=B.ln;unfold In at this;omega
         have a0:=hI X;have l4:l<4:=by have:=P.out;omega
         have v1:g.val.cell? ⟨wr.heap.size,1,none⟩=some (int i64 (l:Int)):=by rw[z1 g,X]
         have v2:=z2 g;have N:=qo a3 g.bel;have v3:=N.cell l4;have v4:=N.frozen l;have l1:(0:Int)<=(l:Int):=by omega
         have l2:(l:Int)<4:=by omega
         have HB:=hI (ziG l Z (by omega) (λj hj=>(HA j hj).2.len))
         have HN:=hI B.len;have a9:IntKind.i64.wrap (qy p S i l - (S i).len)=qy p S i l - (S i).len:=by
          have h1:=HB.out;have h2:=HN.out;unfold In at h2;rw[Jk];omega
         have a1:=hI (zb A g.bel);have Y:=hI (ze r g.bel);have a2:=hI N;clear X N z0 z1 z2 z3 y0 y1 y2 y3 A r;generalize g.val=G at *;go_upto_region 14 with fail;have T:Hid ((G.setCell (f,l) (int i64 (qy p S i l - (S i).len))).drew.rowIs f 319 4 (λj=>int i64 (qy p S (i+1) j))):=by
          refine(a2.set l _).congr (λj _=>?_)
          rw[← zlQ p S i l j a7 a0.out]
          split <;> rfl
         have a8:Hid ((G.setCell ⟨f,l,_⟩ (int i64 (qy p S i l - (S i).len))).drew.heap[w.heap.size]?=_):=zK (zD a1 _ _ (by omega))
         have a6:Hid (Below _ w (G.setCell (f,l) (int i64 (qy p S i l - (S i).len))).drew):=(Y.setCell (by show w.heap.size<=f;omega) _).drew
         have a5:Hid (∀ j,j<i+1->¬ Has _ j (S j).who/\zmC p _ _):=λj hj=>by
          by_cases e:j=i
          ·subst e;exact⟨HH,zgC.1 B⟩
          ·exact HA j (by omega)
         clear HH B HA a0 a1 Y a2 HB HN a3;go_region
         all_goals (go_wp2;go_roundw)
         all_goals first|(exact⟨_,by omega,by go_num,a5,T,a8,a6⟩)|(simp[intOf];omega)
        ·have B:=hI hfit
         clear hfit;refine zh (by kernel_rfl) (by kernel_rfl) ?_
         repeat(first|go_big_quiet_skip|(go_big_quiet_want;go_big_quiet_op;first|go_big_quiet_on|(apply Jg;refine⟨λg=>?_,?_⟩;(focus(first|(go_at_call 243;refine zf (v:=int i64 (Zv (Qc S) (S i).who i)) ((zbz _ i c S _ _ (by omega) ((HZ.upto (by omega)).below (ze r g.bel))).mono ?_);rintro e w4 ⟨rfl,s⟩;exact⟨rfl,s⟩)|(go_at_call 264;refine zf (v:=.bool false) ((zfp _ _ mc p _ _ _ _ _ _ P a4 (HX.below (ze r g.bel))).mono ?_);rintro e w4 ⟨⟨bb,rfl,hi⟩,s⟩;obtain rfl:=Bool.eq_false_iff.2 (λe=>B (hi.1 e));exact⟨rfl,s⟩)));go_big_quiet_on)))
         refine Jl ?_;rintro _ ⟨g,rfl⟩;have U:=zb A g.bel;obtain⟨o0,o1,o2,o3⟩:=ce4 U;obtain⟨f0,f1,f2,f3⟩:=fe4 U;go_wp2;have M:=zeE U () () () ();obtain⟨H,I,J,K⟩:=ce4 M;exact Jj (by simp[results,results236,go_sem,H,I,J,K,zmH]) rfl ⟨.inr ⟨λh=>B (zgC.2 (h.2.2 i hlt2).2),rfl⟩,zcx (ze r g.bel) (Jr _) _ _ _ _⟩
      ·obtain rfl:i=n:=by omega
       obtain⟨o0,o1,o2,o3⟩:=ce4 y;obtain⟨f0,f1,f2,f3⟩:=fe4 y;have c0:=d.cell (i:=0) (by omega)
       have c1:=d.cell (i:=1) (by omega)
       have c2:=d.cell (i:=2) (by omega)
       have c3:=d.cell (i:=3) (by omega)
       go_wp2;have M:=zeE y (qy p S i 0) (qy p S i 1) (qy p S i 2) (qy p S i 3);obtain⟨H,I,J,K⟩:=ce4 M;exact Jj (by simp[results,results236,go_sem,H,I,J,K,zmH]) rfl ⟨.inl ⟨⟨Z,h60,HA⟩,rfl⟩,zcx a (Jr _) _ _ _ _⟩
  ·have d0:decide (60<n)=true:=by simp;omega
   obtain⟨o0,o1,o2,o3⟩:=ce4 L;obtain⟨f0,f1,f2,f3⟩:=fe4 L;go_wp2;have M:=zeE L () () () ();obtain⟨H,I,J,K⟩:=ce4 M;exact Jj (by simp[results,results236,go_sem,H,I,J,K,zmH]) rfl ⟨.inr ⟨λh=>h60 h.2.1,rfl⟩,zcx C (Jr _) _ _ _ _⟩
theorem zky (k:Nat)(w:World)(hk:k<=4194304) :
  Calls prog 294 #[.slice none 0 0,int i64 k] w λe w'=>(∃ v,e=.returned v/\w'.ownsRow w.heap.size 220 4 v 0 [])/\Below w.heap.size w w':=by
 have d0:decide ((k:Int)<0)=false:=by simp
 by_cases h0:0<k
 ·obtain⟨f,g,b,h,c⟩:=info_parts Tryz.infoStay
  have a:=Lib.run_append_nil_zeros w 141 3 141 220 f _ .i64 _ underlying141 underlying3 g b k h0 (by omega) (by omega) (by rw[c];omega)
  have d1:decide (0<k)=true:=by simpa using h0
  go_enter func294,ntmps294;go_wp2_with (first|(at_builtin;refine Lib.wpList_append_run _ rfl _ _ _ _ rfl _ _ rfl rfl _ _ a ?_))
  go_ret;have d:=grownCap_ge w k 0 220;refine⟨⟨_,rfl,rfl,.inr ⟨_,_,_,rfl,Jr _,Jb w _,Jq _,grownCap_le_maxLen w k 0 _ (by unfold maxLen;omega),?_,rfl⟩⟩,(zk (Ji _ w) _).drew⟩
  rw[Array.size_append,size_zeroCells,size_zeroCells]
  show k*4+_*4=_
  omega
 ·obtain rfl:k=0:=by omega
  go_enter func294,ntmps294;go_wp2;go_ret;exact⟨⟨_,rfl,rfl,.inl ⟨rfl,rfl⟩⟩,bZ⟩
def zfq (n j r:Nat):Nat:=if r=0 then 0 else if r=1 then n else n+j
theorem zns (P:Nat)(m o:Option Addr)(n j p B:Nat)(S T:Nat->Zp)(w:World)(hn:n<=1048576)(C:j<=1048576)
  (k:w.heap[P]?=some (.cells #[.slice m n p,.slice o j B] 141 (0,0))) (L:qw w m n S) (M:qw w o j T) (G:m=none->n=0/\p=0) (H:o=none->j=0/\B=0) :
  Calls prog 288 #[.slice (some ⟨P,0,none⟩) 2 2] w λe w'=>(∃ v,e=.returned v/\w'.ownsRow w.heap.size 220 4 v (n+j) (zy (QI S n T) (n+j)))/\Below w.heap.size w w':=by
 obtain⟨N,O,y,z,A⟩:=info_parts Tryz.infoStay;have V:=hI L;have W:=hI M;have Q:w.cell? _=some (.slice m n p):=za k 0 _ rfl;have R:w.cell? _=some (.slice o j B):=za k 1 _ rfl;have c0:zfq n j 0=0:=rfl;have c1:zfq n j 1=n:=rfl;have c2:zfq n j 2=n+j:=rfl;have K:zy (QI S n T) n=_:=zbU (λi X=>Jf X)
 have J:=hI K;clear L M K;go_enter func288,ntmps288;go_wp2;go_loopg [3,5,11] 2 (λg s _ i wr=>∃ r,r<=2/\g=2 - r/\i=int i64 r/\s=int i64 (zfq n j r)/\wr=w)
 case atStart=>exact⟨0,by omega,rfl,rfl,rfl,rfl⟩
 case round =>
  obtain⟨r,hr,rfl,rfl,rfl,q⟩:=hrel;have t:=q.symm;subst t;clear q;have f:r=0∨r=1∨r=2:=by omega
  rcases f with rfl|rfl|rfl
  ·go_wp2
   go_roundg 1
   case measure=>omega
   case rel=>exact⟨1,by omega,rfl,by go_num,by rw[c1],rfl⟩
  ·have hd:decide ((n:Int)+(j:Int)<0)=false:=by simp;omega
   go_wp2;go_roundg 0
   case measure=>omega
   case rel=>exact⟨2,by omega,rfl,by go_num,by rw[c2];go_num,rfl⟩
  ·go_wp2_with fail
   refine(zky _ _ (by omega)).mono ?_
   rintro e w1 ⟨⟨v,rfl,I⟩,F⟩;clear Q R;go_wp2;go_loopg [6,8,27] 2 (λg u _ i wr=>∃ r,r<=2/\g=2 - r/\i=int i64 r/\wr.ownsRow w.heap.size 220 4 u (zfq n j r) (zy (QI S n T) (zfq n j r))/\Below w.heap.size w wr)
   case atStart=>exact⟨0,by omega,rfl,rfl,I,F⟩
   case round =>
    obtain⟨r,hr,rfl,rfl,l,a⟩:=hrel;obtain⟨U,E⟩:∃ x,x=wr:=⟨_,rfl⟩;subst E;have c:=a.size;have d:=zb k a;have Q:U.cell? _=some (.slice m n p):=za d 0 _ rfl;have R:U.cell? _=some (.slice o j B):=za d 1 _ rfl;have f:r=0∨r=1∨r=2:=by omega
    rcases f with rfl|rfl|rfl
    ·have D:=hI (zal (V.out.below a))
     go_wp2_with (first|(at_builtin;refine zv _ rfl _ _ 141 rfl _ 220 N _ 4 32 underlying141 O y z A rfl (by decide) _ 0 [] (by rfl) l m n p _ rfl G (ZR _ _) D.out (QQ _ _) (by unfold maxLen;omega) (by omega) c ?_;intro Y Z b h))
     go_roundg 1
     case measure=>omega
     case rel=>exact⟨1,by omega,rfl,by go_num,by
      rw[c1];rw[Nat.zero_add,List.nil_append] at b;rw[J.out];exact b,a.grown h c (λj C=>(l.lt j C).1)⟩
    ·have D:=hI (zal (W.out.below a))
     rw[c1,J.out] at l;go_wp2_with (first|(at_builtin;refine zv _ rfl _ _ 141 rfl _ 220 N _ 4 32 underlying141 O y z A rfl (by decide) _ n _ (by rfl) l o j B _ rfl H (ZR _ _) D.out (QQ _ _) (by unfold maxLen;omega) (by omega) c ?_;intro Y Z b h))
     go_roundg 0
     case measure=>omega
     case rel=>exact⟨2,by omega,rfl,by go_num,by
      rw[c2,zfy];exact b,a.grown h c (λj C=>(l.lt j C).1)⟩
    ·rw[c2] at l
     go_wp2;go_ret;exact⟨⟨_,rfl,l⟩,a⟩
theorem ziO (M bo:Option Addr)(m mc n c:Nat)(p:zH)(S:Nat->Zp)(x len hei:Int)(w:World)(hl:p.n=m)(hm:m<=1048576)(hn:n<=1048576)(hc:n<=c)(hx:zG w M p)(hz:qw w bo n S)(y:bo=none->n=0/\c=0) :
  Calls prog 282 #[(M,m,mc),(bo,n,c),x,len,hei] w λe w'=>zgf w' w.heap.size 220 p n S x len hei e/\Below w.heap.size w w':=by
 have HX:=hI hx;have Y:=hI hz;have J:=hI hl;have X:=hI y;clear hx hz hl y;go_enter func282,ntmps282;go_wp2_with fail;refine(zee M bo m mc n c p S _ J hm hn hc HX Y).mono ?_;rintro e w1 ⟨u,C⟩;unfold zlX zmH at u
 rcases u with⟨G,rfl⟩|⟨G,rfl⟩
 ·have T:=hI G
  have a2:m<=4:=by rw[← J.out];exact G.1.1
  have a4:=G.2.1;clear G;have b:=zk C (.cells #[(qy p S n 0),(qy p S n 1),(qy p S n 2),(qy p S n 3)] 319);have H:=Jb w1 (.cells #[(qy p S n 0),(qy p S n 1),(qy p S n 2),(qy p S n 3)] 319)
  by_cases h60:n=60
  ·have Z:(n == 60)=true:=by simpa using h60
   have a0:((n:Int) == 60)=true:=by simp;omega
   have A:=hI h60;clear h60;go_wp2;exact Jj (by simp[results,results282,go_sem]) rfl ⟨zcM (λk h=>h.2.1 A),b⟩
  ·have Z:(n == 60)=false:=by simpa using h60
   have a0:((n:Int) == 60)=false:=by simp;omega
   have A:=hI h60;go_wp2_with fail;generalize w1.alloc _=w2 at b H ⊢;refine(zbz bo n c S x _ hn (Y.below b)).mono ?_;rintro e w3 ⟨rfl,D⟩;have B:=ze b D;have I:=zb H D;clear b H D C;generalize w1.heap.size=f at I ⊢
   by_cases hh:Has (Qc S) n x
   ·have e1:=Jd ((QC _ _ _).2 hh)
    have V:=hI hh;clear hh;go_wp2;exact Jj (by simp[results,results282,go_sem]) rfl ⟨zcM (λk h=>h.2.2.1 V),B⟩
   ·have e1:=Jc (λh=>hh ((QC _ _ _).1 h))
    have V:=hI hh;clear hh h60;go_wp2;go_loopw [15,16,38] (λ_ _ i wr=>∃ k,k<=m/\i=int i64 k/\(∀ j,j<k->¬ zmC p (qy p S n) ⟨x,(j:Int),len,hei⟩)/\wr.heap[f]?=some (.cells #[(qy p S n 0),(qy p S n 1),(qy p S n 2),(qy p S n 3)] 319 (0,0))/\Below w.heap.size w wr) (λ_ _ i _=>m - (intOf i).toNat)
    case atStart=>exact⟨0,Jq _,rfl,λj O=>by omega,I,B⟩
    case round =>
     obtain⟨k,hk,rfl,t,r,d⟩:=hrel;have Q:=hI t;clear t B I
     by_cases hlt:k<m
     ·have l:=zk d (.cells #[x,(k:Int),len,hei] 220)
      have a:=Jb wr (.cells #[x,(k:Int),len,hei] 220);have s:=zd r (.cells #[x,(k:Int),len,hei] 220);obtain⟨s0,s1,s2,s3⟩:=ce4 a;obtain⟨f0,f1,f2,f3⟩:=ce4 r;have a5:=zM r;have a3:¬ f=wr.heap.size:=by omega
      go_upto_region 8 with fail;generalize hW:wr.alloc _=W at a l s s0 s1 s2 s3 ⊢;have a6:=zM a;obtain⟨f0,f1,f2,f3⟩:=ce4 s;clear hW d r;go_wp2_with fail;refine(zfp M m mc p _ x _ len hei _ J a2 (HX.below l)).mono ?_;rintro e z ⟨⟨q,rfl,P⟩,g⟩;have K:=ze l g;have a1:=zb s g;have F:=zb a g;clear l s a g s0 s1 s2 s3 f0 f1 f2 f3
      cases q with
      | false =>
       have U:Hid (¬ _):=λh=>by have:=P.2 h;cases this
       clear P;go_wp2;go_roundw
       case rel=>exact⟨k+1,by omega,by go_num,λj O=>by
        by_cases e:j=k
        ·subst e;exact U
        ·exact Q j (by omega),a1,K⟩
       case measure=>simp[intOf];omega
      | true =>
       have U:=hI (P.1 rfl);clear P;obtain⟨s0,s1,s2,s3⟩:=ce4 F;have R:=hI (λo o'=>zk (zk K o) o')
       have HC:Hid (Calls prog 288 #[(some (z.heap.size+1,0),2,2)] ((z.alloc (.cells #[x,(k:Int),len,hei] 220)).alloc (.cells #[(bo,n,c),(some (z.heap.size,0),1,1)] 141)) λe L=>(∃ v,e=.returned v/\L.ownsRow w.heap.size 220 4 v (n+1) (zy (QI S n (λ_=>⟨x,(k:Int),len,hei⟩)) (n+1)))/\Below w.heap.size w L):=by
        have b1:((z.alloc (.cells #[x,(k:Int),len,hei] 220)).alloc (.cells #[(bo,n,c),(some (z.heap.size,0),1,1)] 141)).heap[z.heap.size+1]?=some (.cells #[(bo,n,c),(some (z.heap.size,0),1,1)] 141 (0,0)):=by simpa using Jb (z.alloc _) _
        have N:=nw2H0 b1;refine(zns _ bo _ n 1 c 1 S (λ_=>⟨x,(k:Int),len,hei⟩) _ hn (by omega) b1 (Y.below (R _ _)) ?_ X (λh=>by cases h)).mono ?_
        ·intro i hi
         obtain rfl:i=0:=by omega
         exact⟨_,0,rfl,za N 0 _ rfl,za N 1 _ rfl,za N 2 _ rfl,za N 3 _ rfl⟩
        ·rintro e w5 ⟨⟨v,rfl,ho⟩,E⟩
         exact⟨⟨v,rfl,zu ho (R _ _).size⟩,ze (R _ _) E⟩
       go_wp2_with (first|(go_at_call 288;refine Jm HC ?_;rintro e w5 ⟨⟨v,rfl,ho⟩,E⟩))
       exact Jj (by simp[results,results282,go_sem]) rfl ⟨zkm (znk T A V (by rw[J.out];exact hlt) U Q) ho,E⟩
     ·obtain rfl:k=m:=by omega
      go_wp2;exact Jj (by simp[results,results282,go_sem]) rfl ⟨zcM (zlT (λj O=>Q j (by rw[J.out] at O;exact O))),d⟩
 ·have T:=hI G
  clear G;go_wp2;exact Jj (by simp[results,results282,go_sem]) rfl ⟨zcM (λk h=>T h.1),zk C _⟩
theorem zgQ (many cl be free:Int)(w:World) :
  Calls prog 337 #[.agg #[many],.agg #[cl,be],free] w λe w'=>e=.returned (.tuple #[.agg #[(),(),many,.bool false],.bool (decide (In many 1 free))])/\Below w.heap.size w w':=by
 go_enter func337,ntmps337;go_upto_region 1 with fail;go_region_with (first|(go_at_call 191;refine sC (zz _ _ _ _) ?_))
 all_goals
  have a:=by
   have:=Jb ((w.alloc (.cells #[many] 381)).alloc (.cells #[cl,be] 231)) (.cells #[(),(),many,.bool false] 228);rw[World.size_alloc,World.size_alloc] at this;exact zK this
  obtain⟨c,d,f,g⟩:=ce4 a;have b:Hid (Below _ w (((w.alloc (.cells #[many] 381)).alloc (.cells #[cl,be] 231)).alloc (.cells #[(),(),many,.bool false] 228)).drew):=(zk (zk (zk bZ _) _) _).drew;clear a;generalize (((w.alloc _).alloc _).alloc _).drew=W at *;go_wp2;exact Jj (by simp[results,results337,go_sem,c,d,f,g]) rfl ⟨rfl,b⟩
theorem zgR (a cl be free:Int)(w:World) :
  Calls prog 336 #[.agg #[a],.agg #[cl,be],free] w λe w'=>e=.returned (.tuple #[.agg #[(),(),be,.bool true],.bool (decide (free=be/\a<=be))])/\Below w.heap.size w w':=by
 by_cases h:free=be
 ·have k:(free == be)=true:=by simpa using h
  by_cases h2:a<=be
  ·have l:=Jd h2
   have d:Hid (decide (_/\_)=true):=Jd ⟨h,h2⟩;clear h h2;go_enter func336,ntmps336;go_upto_region 1 with fail;go_region
   all_goals
    have b:=by
     have:=Jb ((w.alloc (.cells #[a] 379)).alloc (.cells #[cl,be] 231)) (.cells #[(),(),be,.bool true] 228);rw[World.size_alloc,World.size_alloc] at this;exact zK this
    obtain⟨f,g,i,j⟩:=ce4 b;have c:Hid (Below _ w (((w.alloc (.cells #[a] 379)).alloc (.cells #[cl,be] 231)).alloc (.cells #[(),(),be,.bool true] 228)).drew):=(zk (zk (zk bZ _) _) _).drew;clear b;generalize (((w.alloc _).alloc _).alloc _).drew=W at *;go_wp2;exact Jj (v:=.tuple #[.agg #[(),(),be,.bool true],.bool true]) (by simp[results,results336,go_sem,f,g,i,j]) rfl ⟨by rw[d.out],c⟩
  ·have l:=Jc h2
   have d:Hid (decide (free=be/\_)=false):=Jc (λq=>h2 q.2)
   clear h h2;go_enter func336,ntmps336;go_upto_region 1 with fail;go_region
   all_goals
    have b:=by
     have:=Jb ((w.alloc (.cells #[a] 379)).alloc (.cells #[cl,be] 231)) (.cells #[(),(),be,.bool true] 228);rw[World.size_alloc,World.size_alloc] at this;exact zK this
    obtain⟨f,g,i,j⟩:=ce4 b;have c:Hid (Below _ w (((w.alloc (.cells #[a] 379)).alloc (.cells #[cl,be] 231)).alloc (.cells #[(),(),be,.bool true] 228)).drew):=(zk (zk (zk bZ _) _) _).drew;clear b;generalize (((w.alloc _).alloc _).alloc _).drew=W at *;go_wp2;exact Jj (v:=.tuple #[.agg #[(),(),be,.bool true],.bool false]) (by simp[results,results336,go_sem,f,g,i,j]) rfl ⟨by rw[d.out],c⟩
 ·have k:(free == be)=false:=by simpa using h
  have d:Hid (decide (_/\a<=be)=false):=Jc (λq=>h q.1)
  clear h;go_enter func336,ntmps336;go_upto_region 1 with fail;go_region
  all_goals
   have b:=by
    have:=Jb ((w.alloc (.cells #[a] 379)).alloc (.cells #[cl,be] 231)) (.cells #[(),(),be,.bool true] 228);rw[World.size_alloc,World.size_alloc] at this;exact zK this
   obtain⟨f,g,i,j⟩:=ce4 b;have c:Hid (Below _ w (((w.alloc (.cells #[a] 379)).alloc (.cells #[cl,be] 231)).alloc (.cells #[(),(),be,.bool true] 228)).drew):=(zk (zk (zk bZ _) _) _).drew;clear b;generalize (((w.alloc _).alloc _).alloc _).drew=W at *;go_wp2;exact Jj (v:=.tuple #[.agg #[(),(),be,.bool true],.bool false]) (by simp[results,results336,go_sem,f,g,i,j]) rfl ⟨by rw[d.out],c⟩
theorem nilB (many : Int) (w : World) : (nilAhead 525 381 (.agg #[.int .i64 many]) "loop.example/g00084/impl.roomIn").run Tryz.prog w = .ok (some false) w := by kernel_rfl
theorem nilW (least : Int) (w : World) : (nilAhead 525 379 (.agg #[.int .i64 least]) "loop.example/g00084/impl.roomIn").run Tryz.prog w = .ok (some false) w := by kernel_rfl
theorem methB (many : Int) (w : World) : (method 525 381 (.agg #[.int .i64 many]) "loop.example/g00084/impl.roomIn").run Tryz.prog w = .ok (337, .agg #[.int .i64 many]) w := by kernel_rfl
theorem methW (least : Int) (w : World) : (method 525 379 (.agg #[.int .i64 least]) "loop.example/g00084/impl.roomIn").run Tryz.prog w = .ok (336, .agg #[.int .i64 least]) w := by kernel_rfl
theorem zkz (x c many:Int)(all:Bool)(w:World) :
  Calls prog 286 #[.agg #[x,c,many,all]] w λe w'=>e=.returned (if all then .iface 379 (.agg #[()]) else .iface 381 (.agg #[many]))/\Below w.heap.size w w':=by
 cases all with
 | false =>
  go_enter func286,ntmps286;go_wp2;go_ret;exact⟨rfl,zk bZ _⟩
 | true =>
  go_enter func286,ntmps286;go_wp2;go_ret;exact⟨rfl,zk bZ _⟩
attribute [local go_sem ↓] Go.wp_at_zero Go.wp_at_succ
theorem setI {W w:World}{b i:Nat}(h:Below W.heap.size W w)(a:W.heap.size<=b)(u:Value):Below W.heap.size W (w.setCell (b,i) u):=h.setCell a u
def six (F:Nat->Int):Value:=.agg #[(F 0),(F 1),(F 2),(F 3),(F 4),(F 5)]
theorem zfI (S:Option Addr)(n c:Nat)(p:zH)(F:Nat->Int)(x cab many:Int)(all:Bool)(w:World)(O:p.n=n)(N:zgt p)(X:zG w S p) :
  Calls prog 265 #[(S,n,c),.agg #[(F 0),(F 1),(F 2),(F 3),(F 4),(F 5)],.agg #[x,cab,many,all]] w λe w'=>qX (zbE p F ⟨x,cab,many,all⟩) e/\Below w.heap.size w w':=by
 have s:=hI O;have Y:=hI N;have a2:n<=6:=by rw[← O];exact N.1
 clear O N;have a1:∀ (fn) (first cap) (w),(Instr.makeFunc fn _ cap).run prog w=.ok (.func fn first cap) w:=λ_ _ _ _=>rfl
 have k1:=nilB;have k2:=nilW;have k3:=methB;have k4:=methW;go_enter func265,ntmps265;go_upto_region 1 with fail;have t:((w.alloc _).alloc (.cells #[x,cab,many,all] 228)).heap[w.heap.size]?=some (.cells #[(F 0),(F 1),(F 2),(F 3),(F 4),(F 5)] 323 (0,0)):=zd (Jb w _) _;have u:=zoT t;have j:=nw2HB t;generalize (w.alloc _).alloc _=W at t u j ⊢;have a4:IntKind.i64.wrap ((n:Int) - 1)=(n:Int) - 1:=by rw[Jk];omega
 have z1:=za u 1 _ rfl
 by_cases h3:In cab 0 ((n:Int) - 1)
 ·have Z:=Jd h3
  have G:=hI h3;obtain⟨m,rfl⟩:∃ m:Nat,cab=m:=⟨cab.toNat,by unfold In at h3;omega⟩
  have V:m<n:=by unfold In at h3;omega
  clear h3;obtain⟨b,off,rfl,K,T⟩:=X m (by rw[s.out];exact V)
  have U:=Ja w _ K;have i1:(0:Int)<=(m:Int):=by omega
  have i2:(m:Int)<(n:Int):=by omega
  have i3:(m:Int)<6:=by omega
  have i4:m<6:=by omega
  have k:=hI j;have g:Hid (∀ w',Below _ W w'->(w'.cell? _=some (.int _ x)/\w'.cell? _=some (.int _ _)/\w'.cell? _=some (.int _ _)/\w'.cell? _=some (.bool all)/\_/\_/\w'.cell? ⟨_,m,_⟩=some (.int _ (F m)))):=λw' h=>by
   have H:=zb u h;have r:=zb t h;refine⟨za H 0 _ rfl,za H 1 _ rfl,za H 2 _ rfl,za H 3 _ rfl,((ze j h).cell U).trans K,((ze j h).cell (p:=⟨b,_+1,_⟩) U).trans T,?_⟩;have:m=0∨m=1∨m=2∨m=3∨m=4∨m=5:=by omega
   rcases this with rfl|rfl|rfl|rfl|rfl|rfl
   ·exact za r 0 _ rfl
   ·exact za r 1 _ rfl
   ·exact za r 2 _ rfl
   ·exact za r 3 _ rfl
   ·exact za r 4 _ rfl
   ·exact za r 5 _ rfl
  have a3:=zM u;clear K T t u j X
  cases all with
  | false =>
   go_upto_region 3 with(first|(go_at_call 191;refine sC (zz _ _ _ _) ?_))
   go_cut [7,8] (λP Q wc=>∃ B,P=.pointer (some ⟨B,0,none⟩)/\Q=.bool (decide (In many 1 (F m)))/\wc.cell? ⟨B,2,none⟩=some (int i64 many)/\Below W.heap.size W wc)
   case first =>
    go_region_held3 (λw'=>w'.cell? (w.heap.size+1,0)=some (int i64 x)/\w'.cell? (w.heap.size+1,1)=some (m:Int)/\w'.cell? (w.heap.size+1,2)=some (int i64 many)/\w'.cell? (w.heap.size+1,3)=some (.bool false)/\w'.cell? (b,off+m*2)=some (p.A m)/\w'.cell? (b,off+m*2+1)=some (p.B m)/\w'.cell? (w.heap.size,m)=some (F m))
     ((refine g _ ?_;(repeat(first|exact bZ|refine Jh ?_|refine zk ?_ _|refine setI ?_ (by omega) _|refine ze ?_ d|refine ze ?_ f))))
     (first|(go_at_call 286;refine(zkz _ _ _ _ _).mono ?_;rintro e l ⟨rfl,f⟩;have s3:W.heap.size<=l.heap.size:=(by have:=f.size;first|omega|(simp at this;omega));(first|(have q:l.heap[W.heap.size]?=_:=zb (Jb W.drew (.cells _ 228)) f)|skip))|(go_at_call 337;refine(zgQ _ _ _ _ _).mono ?_;rintro e R ⟨rfl,d⟩;(first|(have a:=zb q d;have A:=za a 0 _ rfl;have C:=za a 1 _ rfl;have D:=za a 2 _ rfl;have E:=za a 3 _ rfl;have v:=zg a 0;have y:=zg a 1;have z:=zg a 2;have f3:=zg a 3)|(have a:=zb (Jb l (.cells _ 228)) d;have A:=za a 0 _ rfl;have C:=za a 1 _ rfl;have D:=za a 2 _ rfl;have E:=za a 3 _ rfl;have v:=zg a 0;have y:=zg a 1;have z:=zg a 2;have f3:=zg a 3)|(have a:=zb (Jb l.drew (.cells #[(),(),(),.bool false] 228)) d;have A:=za a 0 _ rfl;have C:=za a 1 _ rfl;have D:=za a 2 _ rfl;have E:=za a 3 _ rfl;have v:=zg a 0;have y:=zg a 1;have z:=zg a 2;have f3:=zg a 3)|skip)))
    all_goals
     go_wp2;go_meet;exact⟨_,rfl,rfl,(by first|exact za (Jb R _) 2 _ rfl|exact za (zm (zm (zm (zm a 0 _) 1 _) 2 _) 3 _) 2 _ rfl),(by(repeat(first|exact bZ|refine Jh ?_|refine zk ?_ _|refine setI ?_ (by omega) _|refine ze ?_ d|refine ze ?_ f)))⟩
   case rest =>
   obtain⟨B,rfl,rfl,L,i⟩:=hcut;have M:=(g _ i).2.2.1
   by_cases g5:In many 1 (F m)
   ·have J:=Jd g5
    have o:=hI g5;clear g5;go_wp2;go_ret;exact⟨zR ⟨by rw[s.out];exact G,λh=>(by cases h),λ_=>o⟩,ze k i⟩
   ·have J:=Jc g5
    have o:=hI g5;clear g5;go_wp2;go_ret;exact⟨zl (λh=>o (h.2.2 rfl)),ze k i⟩
  | true =>
   have a0:(0:Int)<=p.B m:=by have:=(Y.2 m (by rw[s.out];exact V)).2;unfold In at this;omega
   go_upto_region 3 with(first|(go_at_call 191;refine sC (zz _ _ _ _) ?_))
   go_cut [7,8] (λP Q wc=>∃ B,P=.pointer (some ⟨B,0,none⟩)/\Q=.bool (decide (F m=p.B m))/\wc.cell? ⟨B,2,none⟩=some (int i64 (p.B m))/\Below W.heap.size W wc)
   case first =>
    go_region_held3 (λw'=>w'.cell? (w.heap.size+1,0)=some (int i64 x)/\w'.cell? (w.heap.size+1,1)=some (m:Int)/\w'.cell? (w.heap.size+1,2)=some (int i64 many)/\w'.cell? (w.heap.size+1,3)=some (.bool true)/\w'.cell? (b,off+m*2)=some (p.A m)/\w'.cell? (b,off+m*2+1)=some (p.B m)/\w'.cell? (w.heap.size,m)=some (F m))
     ((refine g _ ?_;(repeat(first|exact bZ|refine Jh ?_|refine zk ?_ _|refine setI ?_ (by omega) _|refine ze ?_ d|refine ze ?_ f))))
     (first|(go_at_call 286;refine(zkz _ _ _ _ _).mono ?_;rintro e l ⟨rfl,f⟩;have s3:W.heap.size<=l.heap.size:=(by have:=f.size;first|omega|(simp at this;omega));(first|(have q:l.heap[W.heap.size]?=_:=zb (Jb W.drew (.cells _ 228)) f)|skip))|(go_at_call 336;refine(zgR _ _ _ _ _).mono ?_;rintro e R ⟨rfl,d⟩;(first|(have a:=zb q d;have A:=za a 0 _ rfl;have C:=za a 1 _ rfl;have D:=za a 2 _ rfl;have E:=za a 3 _ rfl;have v:=zg a 0;have y:=zg a 1;have z:=zg a 2;have f3:=zg a 3)|(have a:=zb (Jb l (.cells _ 228)) d;have A:=za a 0 _ rfl;have C:=za a 1 _ rfl;have D:=za a 2 _ rfl;have E:=za a 3 _ rfl;have v:=zg a 0;have y:=zg a 1;have z:=zg a 2;have f3:=zg a 3)|(have a:=zb (Jb l.drew (.cells #[(),(),(),.bool false] 228)) d;have A:=za a 0 _ rfl;have C:=za a 1 _ rfl;have D:=za a 2 _ rfl;have E:=za a 3 _ rfl;have v:=zg a 0;have y:=zg a 1;have z:=zg a 2;have f3:=zg a 3)|skip)))
    all_goals
     go_wp2;go_meet;exact⟨_,rfl,rfl,(by first|exact za (Jb R _) 2 _ rfl|exact za (zm (zm (zm (zm a 0 _) 1 _) 2 _) 3 _) 2 _ rfl),(by(repeat(first|exact bZ|refine Jh ?_|refine zk ?_ _|refine setI ?_ (by omega) _|refine ze ?_ d|refine ze ?_ f)))⟩
   case rest =>
   obtain⟨B,rfl,rfl,L,i⟩:=hcut;have M:=(g _ i).2.2.1
   by_cases g5:F m=p.B m
   ·have J:=Jd g5
    have o:=hI g5;clear g5
    by_cases g6:many=p.B m
    ·have e6:(p.B m == many)=true:=by simpa using g6.symm
     have I:=hI g6;clear g6;go_wp2;go_ret;exact⟨zR ⟨by rw[s.out];exact G,λ_=>⟨o,I⟩,λh=>(by cases h)⟩,ze k i⟩
    ·have e6:(p.B m == many)=false:=by simp;exact λh=>g6 h.symm
     have I:=hI g6;clear g6;go_wp2;go_ret;exact⟨zl (λh=>I (h.2.1 rfl).2),ze k i⟩
   ·have J:=Jc g5
    have o:=hI g5;clear g5;go_wp2;go_ret;exact⟨zl (λh=>o (h.2.1 rfl).1),ze k i⟩
 ·have Z:=Jc h3
  have G:=hI h3;clear h3;go_wp2_with (first|(go_at_call 191;refine sC (zz _ _ _ _) ?_))
  go_ret;exact⟨zl (λh=>G (by have:=h.1;rw[s.out] at this;exact this)),j⟩
theorem zgS (c d f x:Int)(g:Bool)(a:Nat)(w:World)(i:w.cell? (a,0)=some (int i64 x)) :
  Calls prog 272 #[.agg #[c,d,f,g],.pointer (some (a,0))] w λe w'=>e=.returned (.bool (c == x))/\Below w.heap.size w w':=by
 have b:=Ja w _ i;have h:¬ a=w.heap.size:=by have:a<w.heap.size:=b;omega
 go_enter func272,ntmps272;go_wp2;go_ret;exact⟨rfl,zk bZ _⟩
theorem ziP (t:Option Addr)(n c:Nat)(S:Nat->qN)(x:Int)(h:Nat)(w:World)(hn:n<=1048576)(z:qp w t n S)(r:w.cell? (h,0)=some (int i64 x)) :
  Calls prog 271 #[(t,n,c),.func (.func 272) #[] #[.pointer (some (h,0))]] w λe w'=>e=.returned (Zv (ZV S) x n)/\Below w.heap.size w w':=by
 have q:=Ja w _ r;go_enter func271,ntmps271;go_wp2;go_loopw [5,8] (λ_ i wr=>∃ k,k<=n/\i=int i64 k/\(∀ j,j<k->ZV S j≠x)/\Below w.heap.size w wr) (λ_ i _=>n - (intOf i).toNat)
 case atStart=>exact⟨0,Jq _,rfl,λj y=>by omega,bZ⟩
 case round =>
  obtain⟨k,hk,rfl,d,a⟩:=hrel;have l:=hI d;clear d
  by_cases hlt2:k<n
  ·obtain⟨b,off,rfl,o,h1,h2,h3⟩:=z k hlt2
   have g:=Ja w _ o;have c0:=(a.cell g).trans o;have c1:=(a.cell (p:=⟨b,_+1,_⟩) g).trans h1;have c2:=(a.cell (p:=⟨b,_+2,_⟩) g).trans h2;have c3:=(a.cell (p:=⟨b,_+3,_⟩) g).trans h3;have s:=hI ((a.cell q).trans r);clear o h1 h2 h3 r
   by_cases he:ZV S k=x
   ·have v:((S k).who == x)=true:=by unfold ZV at he;simpa using he
    have m:Hid (Zv (ZV S) x n=k):=by
     have:=zfe hlt2 he l;unfold Zv Hid;rw[this,Jf hlt2]
    clear he;go_wp2_with (first|(go_at_call 272;refine(zgS _ _ _ x _ h _ s).mono ?_;rintro e A ⟨rfl,f⟩))
    go_ret;exact⟨by rw[m.out];rfl,ze a f⟩
   ·have v:((S k).who == x)=false:=by unfold ZV at he;simpa using he
    have u:=hI he;clear he;go_wp2_with (first|(go_at_call 272;refine(zgS _ _ _ x _ h _ s).mono ?_;rintro e A ⟨rfl,f⟩))
    go_roundw
    case rel=>exact⟨k+1,by omega,by go_num,λj y=>by
     by_cases e:j=k
     ·subst e;exact u
     ·exact l j (by omega),ze a f⟩
    case measure=>simp[intOf];omega
  ·obtain rfl:k=n:=by omega
   have m:=hI (zbM (zdp l));go_wp2;go_ret;exact⟨by rw[m.out];rfl,a⟩
/-- roomOf: where the stay of the by stands, -1 Zx one. -/
theorem QF (b:Option Addr)(n c:Nat)(S:Nat->qN)(x:Int)(w:World)(i:n<=1048576)(j:qp w b n S) :
  Calls prog 244 #[(b,n,c),x] w λe w'=>e=.returned (Zv (ZV S) x n)/\Below w.heap.size w w':=by
 have a:Below _ w (w.alloc (.cells #[x] 3)):=zk bZ _;have g:=hI (j.below a);have f:Hid ((w.alloc (.cells #[_] 3)).cell? _=some (int i64 x)):=za (Jb w _) 0 _ rfl;have h:∀ (fn) (first cap) (w),(Instr.makeFunc fn _ cap).run prog w=.ok (.func fn first cap) w:=λ_ _ _ _=>rfl
 go_enter func244,ntmps244;go_wp2_with (first|(go_at_call 271;refine(ziP b n c S x _ _ i g f).mono ?_;rintro e w2 ⟨rfl,d⟩))
 go_ret;exact⟨rfl,ze a d⟩
end Go.Proofs.YtmdnjgihooflfaaGreatDoor
