/-
  OWN TEXT: SpecRows, SpecEi, SpecEjk, SpecEn, KitDa, TakeS0, SpecDa.
-/
import Derived.Deep.RegionHeld3
import Derived.Deep.DeepCutAuto
import Derived.Deep.RegionLawGrows
import Derived.Deep.AppendLies
import Derived.Great.Walk
import Derived.Test.YtmdnjgihooflfaaGreatDoorB28
namespace Go.Proofs.YtmdnjgihooflfaaGreatDoor
open Go.RowKit
open Go.Value (int)
open Go.IntKind (i64)
open Tryz
set_option maxHeartbeats 64000000
set_option maxRecDepth 100000
section
open Go.RowKit
variable{w:World}{g t:Nat}{u0 u1 u2:Value}
theorem setV {n:Nat}{w':World}(h:Below n w w'){o:Nat}(a:n<=g)(v:Value):Below n w (w'.setCell (g,o) v):=h.setCell (p:=(g,o)) a v
theorem rec3W (h:w.heap[g]?=some (.cells #[u0,u1,u2] t (0,0)))(v0 v1 v2:Value) :
  (((w.setCell (g,0) v0).setCell (g,1) v1).setCell (g,2) v2).heap[g]?=some (.cells #[v0,v1,v2] t (0,0)):=by
 have a:=by simpa using zm h 0 v0
 have b:=by simpa using zm a 1 v1
 simpa using zm b 2 v2
theorem rowln_set {u3 u4:Value}(h:w.heap[g]?=some (.cells #[u0,u1,u2,u3,u4] t (0,0)))(v:Value):(w.setCell (g,3) v).heap[g]?=some (.cells #[u0,u1,u2,v,u4] t (0,0)):=by simpa using zm h 3 v
theorem znW {u3 u4:Value}(h:w.heap[g]?=some (.cells #[u0,u1,u2,u3,u4] t (0,0)))(v:Value):(w.setCell (g,4) v).heap[g]?=some (.cells #[u0,u1,u2,u3,v] t (0,0)):=by simpa using zm h 4 v
theorem zkW (x:Off)(K d8 b1:Option Addr)(R a4 d9 k:Nat)(z:Int)(w:World)(hs:Off.Short x 1048576)(e5:qB w K x.san x.sa)(O:ZG w d8 x.ldn x.ld)(e2:qO w b1 x.bkn x.bk)(j4:x.bkn<=30)(e3:zW x.sa z x.san=k)(j7:k<x.san)(i5:x.ldn=x.san) :
  Calls prog 170 #[.agg #[(K,x.san,R),(d8,x.ldn,a4),(b1,x.bkn,d9)],z] w λe w'=>(∃ v,e=.returned v/\w'.ownsRow w.heap.size 203 5 v (Qn (x.ld k) x.bk z x.bkn).length (qW (zeM (Qn (x.ld k) x.bk z x.bkn)) (Qn (x.ld k) x.bk z x.bkn).length))/\Below w.heap.size w w':=by
 obtain⟨j0,ji,i7,i8,i9⟩:=info_parts Tryz.infoRow;have g5:=hI e5;have f6:=hI e2;have g6:=hI hs;have n1:=hs.1.1;have f8:=hI e3;obtain⟨C,hC,hI⟩:=O;obtain⟨lb,lo,rfl,A⟩:=hC k (by omega)
 obtain⟨l,O⟩:∃ l,l=x.ld k:=⟨_,rfl⟩;obtain⟨a2,a5,b2,b4,b3,b5,y,d0,f5,b9,e9,e6,f4⟩:=hI k (by omega)
 rw[← O] at y d0 f5 b9 e9 e6 f4;have a7:=hs.2.1.2 k (by omega)
 rw[← O] at a7;have n2:=a7.1;have n3:=a7.2.1;rw[← O];have g7:=hI d0;have g4:=hI b9;have d4:lb<w.heap.size:=Ja w _ (A 0 (by decide))
 have j5:(0:Int)<=(k:Int):=by omega
 have j6:(k:Int)<(x.ldn:Int):=by omega
 have a1:Hid (w.cell? ⟨lb,lo+_,_⟩=some (.slice a2 _ a5)/\w.cell? _=some (.slice b2 _ b4)/\w.cell? _=some (.slice b3 _ b5)) :=
  ⟨by have:=A 0 (by decide);rw[y] at this;exact this,by have:=A 1 (by decide);rw[y] at this;exact this,by have:=A 2 (by decide);rw[y] at this;exact this⟩
 have d5:Hid (∀ w',_->Calls _ 161 _ w' λe w2=>e=.returned _/\_):=λw' h =>
  (Q9 K _ R _ z w' n1 (g5.below h)).mono λe w2 ⟨a,b⟩=>⟨by
   rw[f8.out] at a
   rcases a with⟨_,rfl⟩|⟨h,_⟩
   ·rfl
   ·omega,b⟩
 have G:Below _ w (w.alloc (.cells #[(K,x.san,R),(some (lb,lo),x.ldn,a4),(b1,x.bkn,d9)] 38)):=zk bZ _;have bO:=zoP G;clear e5 e2 hs e3 hC hI A y d0 f5 b9 e9 e6 f4 a7 O i5;go_enter func170,ntmps170;go_upto_region 1 with fail;generalize w.alloc _=V at G bO ⊢;have i0:=G.size;have BW:Hid (∀ w',_->Below _ w w'):=λw' h=>ze G h
 have h4:=zM bO;have KS:Hid (∀ w',Below _ V w'->(w'.cell? _=some (.slice K _ R)/\w'.cell? _=some (.slice _ _ a4)/\_/\_/\_)):=λw' h=>by
  have g1:=zb bO h;have g2:=ze G h;exact⟨za g1 0 _ rfl,za g1 1 _ rfl,(g2.cell d4).trans a1.1,(g2.cell d4).trans a1.2.1,(g2.cell d4).trans a1.2.2⟩
 go_cut [5] (λs5 wc=>∃ B,s5=.pointer (some ⟨B,0,none⟩)/\wc.heap[B]?=some (.cells #[.slice a2 l.stn a5,.slice b2 l.ron b4,.slice b3 l.sen b5] 145 (0,0))/\Below V.heap.size V wc)
 case first =>
  go_region_held3 (λw'=>w'.cell? (w.heap.size,0)=some (K,x.san,R)/\w'.cell? (w.heap.size,1)=some (some (lb,lo),x.ldn,a4)/\w'.cell? (lb,lo+k*3)=some (a2,l.stn,a5)/\w'.cell? (lb,lo+k*3+1)=some (b2,l.ron,b4)/\w'.cell? (lb,lo+k*3+2)=some (b3,l.sen,b5))
   ((refine KS _ ?_;exact(by repeat(first|exact bZ|refine Jh ?_|refine zk ?_ _|refine setV ?_ (by omega) _|refine ze ?_ N))))
   (first|(go_at_call 161;refine Jm (d5 _ (BW _ (by repeat(first|exact bZ|refine Jh ?_|refine zk ?_ _|refine setV ?_ (by omega) _|refine ze ?_ N)))) ?_;rintro e w4 ⟨rfl,N⟩;have s4:V.heap.size<=w4.heap.size:=(by have:=N.size;first|omega|(simp at this;omega));(first|(have m:w4.heap[V.heap.size]?=_:=zb (Jb V.drew (.cells _ 145)) N;have y0:=za m 0 _ rfl;have y1:=za m 1 _ rfl;have y2:=za m 2 _ rfl;have f0:=zg m 0;have f1:=zg m 1;have f2:=zg m 2)|skip)))
  all_goals
   go_wp2;go_meet
   first|exact⟨_,rfl,Jb w4 _,(by repeat(first|exact bZ|refine Jh ?_|refine zk ?_ _|refine setV ?_ (by omega) _|refine ze ?_ N))⟩|exact⟨_,rfl,rec3W m _ _ _,(by repeat(first|exact bZ|refine Jh ?_|refine zk ?_ _|refine setV ?_ (by omega) _|refine ze ?_ N))⟩
 case rest =>
 obtain⟨B,rfl,bL,b6⟩:=hcut;have g9:=zb bO b6;have S:=ze G b6;clear bO G b6 KS BW d5 a1 h4 i0;have z2:=za g9 2 _ rfl;go_wp2;clear z2;go_loopw [6,8,9,11,13,25] (λv _ _ _ _ q wr=>∃ (i r:Nat),i<=x.bkn/\q=int i64 i/\r=(Qn l x.bk z i).length/\wr.ownsRow wc.heap.size 203 5 v r (qW (zeM (Qn l x.bk z i)) r)/\Below wc.heap.size wc wr) (λ_ _ _ _ _ q _=>x.bkn - (intOf q).toNat)
 case atStart=>exact⟨0,0,Jq _,rfl,rfl,⟨rfl,.inl ⟨rfl,rfl⟩⟩,bZ⟩
 case round =>
  obtain⟨i,r,hi,rfl,e4,W,T⟩:=hrel;have P:=hI e4;have j1:r<=30:=by have:=zmL l x.bk z i;omega
  clear e4;have c:=ze S T
  by_cases hlt2:i<x.bkn
  ·obtain⟨D,hD,hJ⟩:=f6
   obtain⟨bb,bo,rfl,A⟩:=hD i hlt2;obtain⟨b,a6⟩:∃ b,b=x.bk i:=⟨_,rfl⟩;obtain⟨J,L,y,b8,e8⟩:=hJ i hlt2;rw[← a6] at y b8 e8;have a0:=hI a6;have f7:Hid (ql.Short b 1048576):=by rw[a6];exact g6.2.2.2 i hlt2
   have f9:=hI b8;have f:bb<w.heap.size:=Ja w _ (A 0 (by decide))
   have c0:wr.cell? _=some (.int _ _):=(c.cell (p:=⟨bb,bo+_,_⟩) f).trans (by have:=A 0 (by decide);rw[y] at this;exact this)
   have c1:wr.cell? _=some (.int _ _):=(c.cell f).trans (by have:=A 1 (by decide);rw[y] at this;exact this)
   have c2:wr.cell? _=some (.string _):=(c.cell f).trans (by have:=A 2 (by decide);rw[y] at this;exact this)
   have c3:wr.cell? _=some (.slice J _ L):=(c.cell f).trans (by have:=A 3 (by decide);rw[y] at this;exact this)
   have c4:wr.cell? _=some (.int _ _):=(c.cell f).trans (by have:=A 4 (by decide);rw[y] at this;exact this)
   have c5:wr.cell? _=some (.int _ _):=(c.cell f).trans (by have:=A 5 (by decide);rw[y] at this;exact this)
   have c6:wr.cell? _=some (.int _ _):=(c.cell f).trans (by have:=A 6 (by decide);rw[y] at this;exact this)
   have c7:wr.cell? _=some (.int _ _):=(c.cell f).trans (by have:=A 7 (by decide);rw[y] at this;exact this)
   have c8:wr.cell? _=some (.bool _):=(c.cell f).trans (by have:=A 8 (by decide);rw[y] at this;exact this)
   have c9:wr.cell? _=some (.int _ _):=(c.cell f).trans (by have:=A 9 (by decide);rw[y] at this;exact this)
   have h5:wr.cell? _=some (.int _ _):=(c.cell f).trans (by have:=A 10 (by decide);rw[y] at this;exact this)
   have h6:wr.cell? _=some (.int _ _):=(c.cell f).trans (by have:=A 11 (by decide);rw[y] at this;exact this)
   have h7:wr.cell? _=some (.int _ _):=(c.cell f).trans (by have:=A 12 (by decide);rw[y] at this;exact this)
   clear hD hJ A y a6 b8 e8;go_wp2_with fail;have bB:=Jb wr (.cells (b,J,L) 150);have b7:Below _ wc (wr.alloc (.cells (b,J,L) 150)):=zk T _;have I:=W.alloc (.cells (b,J,L) 150);generalize wr.alloc _=Y at bB b7 I ⊢;generalize wr.heap.size=j2 at bB ⊢;clear c0 c1 c2 c3 c4 c5 c6 c7 c8 c9 h5 h6 h7 T c W;refine(zft b J L _).mono ?_;rintro e Y1 ⟨rfl,m⟩;have F:=zb bB m;have n:=ze b7 m;have s:=zo m I;clear bB b7 m I;obtain⟨t1,d1⟩:∃ t,t=decide (zez b):=⟨_,rfl⟩;rw[← d1];have a9:Hid (t1=true↔zez b):=by show _↔_;rw[d1,decide_eq_true_eq]
   clear d1
   cases t1 with
   | false =>
    have HN:Hid (¬ OnZ (x.bk i) z):=λh=>by rw[← a0.out] at h;have:=a9.2 h.1;cases this
    go_wp2;go_roundw
    case rel=>exact⟨i+1,r,by omega,by go_num,by rw[zdW HN.out];exact P,by rw[zdW HN.out];exact s,n⟩
    case measure=>simp[intOf];omega
   | true =>
    have d6:=hI (a9.1 rfl);clear a9;have y3:=za F 3 _ rfl;go_wp2_with fail;refine(zkV J _ L _ z _ f7.2 (f9.below (ze S n))).mono ?_;rintro e Y2 ⟨⟨t2,rfl,e7⟩,d3⟩;have d3:=d3.symm;subst d3;have b0:=hI e7;clear e7 y3
    cases t2 with
    | false =>
     have HN:Hid (¬ OnZ (x.bk i) z):=λh=>by rw[← a0.out] at h;have:=b0.2 h.2;cases this
     go_wp2;go_roundw
     case rel=>exact⟨i+1,r,by omega,by go_num,by rw[zdW HN.out];exact P,by rw[zdW HN.out];exact s,n⟩
     case measure=>simp[intOf];omega
    | true =>
     have d7:Hid (OnZ (x.bk i) z):=by show OnZ _ z;rw[← a0.out];exact⟨d6,b0.1 rfl⟩
     clear b0 d6;have y0:=za F 0 _ rfl;have y2:=za F 2 _ rfl;have y4:=za F 4 _ rfl;have l0:∀ o,(Y1.alloc o).cell? _=some (.slice a2 _ a5):=λo=>za (zd (zb bL n) o) 0 _ rfl
     go_wp2;have bR:=Jb Y1 (.cells #[b.name,b.own,b.pe,int i64 (-1),int i64 (-1)] 203);have U:Below _ wc (Y1.alloc (.cells #[b.name,b.own,b.pe,int i64 (-1),int i64 (-1)] 203)):=zk n _;have X:=s.alloc (.cells #[b.name,b.own,b.pe,int i64 (-1),int i64 (-1)] 203);have a3:=zd F (.cells #[b.name,b.own,b.pe,int i64 (-1),int i64 (-1)] 203);have d2:=λg hg=>And.right (World.ownsRow.lt s g hg)
     have i3:=n.size;have e0:=zM F;generalize Y1.alloc _=R0 at bR U X a3 ⊢;generalize Y1.heap.size=rb at bR i3 e0 d2 ⊢;clear y0 y2 y4 l0 n F s;have g8:=hI d2;clear d2;have j3:=zM bL;go_loopw [11,50] (λ_ q wr=>∃ j,j<=l.stn/\q=int i64 j/\wr.heap[rb]?=some (.cells #[b.name,b.own,b.pe,(zas l.st b.who j),int i64 (-1)] 203 (0,0))/\zx R0 wr (λb=>b=rb)) (λ_ q _=>l.stn - (intOf q).toNat)
     case atStart=>exact⟨0,Jq _,rfl,bR,zx.refl _ _⟩
     case round =>
      obtain⟨j,hj,rfl,M,d⟩:=hrel;have H:=zx.below U U.size d (λg e=>by have e:=e;omega)
      have c:=ze S H;have Q:=d.blk a3 (by omega)
      by_cases hjl:j<l.stn
      ·obtain⟨sb,so,rfl,h0,h1,h2,h3⟩:=g7 j hjl
       have E:=Ja w _ h0;have c0:=(c.cell E).trans h0;have c1:=(c.cell (p:=⟨sb,_+1,_⟩) E).trans h1;have c2:=(c.cell (p:=⟨sb,_+2,_⟩) E).trans h2;have c3:=(c.cell (p:=⟨sb,_+3,_⟩) E).trans h3;clear h0 h1 h2 h3;have y1:∀ o,(wr.alloc o).cell? _=some (.int _ _):=λo=>za (zd Q o) 1 _ rfl
       have r3:∀ o,(wr.alloc o).cell? _=some (.int _ _):=λo=>za (zd M o) 3 _ rfl
       have g3:=λo=>zg (zd M o) 3
       have i1:(0:Int)<=(j:Int):=by omega
       have i2:(j:Int)<(l.stn:Int):=by omega
       by_cases he:(l.st j).who=b.who
       ·have e1:((l.st j).who == b.who)=true:=by simpa using he
        have HE:=hI he;clear he;go_wp2;go_roundw
        case rel=>exact⟨j+1,by omega,by go_num,by rw[show zas l.st b.who (j+1)=(l.st j).ln by rw[zas,Jf HE.out]];exact rowln_set (zd M _) _,(d.trans (zx.of_below (zk bZ _))).set rfl _⟩
        case measure=>simp[intOf];omega
       ·have e1:((l.st j).who == b.who)=false:=by simpa using he
        have HE:=hI he;clear he;go_wp2;go_roundw
        case rel=>exact⟨j+1,by omega,by go_num,by rw[show zas l.st b.who (j+1)=zas l.st b.who j by rw[zas,Je HE.out]];exact zd M _,d.trans (zx.of_below (zk bZ _))⟩
        case measure=>simp[intOf];omega
      ·obtain rfl:j=l.stn:=by omega
       have l1:=za (zb bL H) 1 _ rfl;clear H c Q bR hj hjl;go_wp2;clear l1;have bR:=M;have a8:=d;clear M d;go_loopw [13,66] (λ_ q wr=>∃ j,j<=l.ron/\q=int i64 j/\wr.heap[rb]?=some (.cells #[b.name,b.own,b.pe,(zas l.st b.who l.stn),(QA l.ro b.who j)] 203 (0,0))/\zx R0 wr (λb=>b=rb)) (λ_ q _=>l.ron - (intOf q).toNat)
       case atStart=>exact⟨0,Jq _,rfl,bR,a8⟩
       case round =>
        obtain⟨j,hj,rfl,M,d⟩:=hrel;have H:=zx.below U U.size d (λg e=>by have e:=e;omega)
        have c:=ze S H;have Q:=d.blk a3 (by omega)
        by_cases hjl:j<l.ron
        ·obtain⟨sb,so,rfl,h0,h1,h2,h3⟩:=g4 j hjl
         have E:=Ja w _ h0;have c0:=(c.cell E).trans h0;have c1:=(c.cell (p:=⟨sb,_+1,_⟩) E).trans h1;have c2:=(c.cell (p:=⟨sb,_+2,_⟩) E).trans h2;have c3:=(c.cell (p:=⟨sb,_+3,_⟩) E).trans h3;clear h0 h1 h2 h3;have y1:∀ o,(wr.alloc o).cell? _=some (.int _ _):=λo=>za (zd Q o) 1 _ rfl
         have r3:∀ o,(wr.alloc o).cell? _=some (.int _ _):=λo=>za (zd M o) 4 _ rfl
         have g3:=λo=>zg (zd M o) 4
         have i1:(0:Int)<=(j:Int):=by omega
         have i2:(j:Int)<(l.ron:Int):=by omega
         by_cases he:(l.ro j).who=b.who
         ·have e1:((l.ro j).who == b.who)=true:=by simpa using he
          have HE:=hI he;clear he;go_wp2;go_roundw
          case rel=>exact⟨j+1,by omega,by go_num,by rw[show QA l.ro b.who (j+1)=(l.ro j).cab by rw[QA,Jf HE.out]];exact znW (zd M _) _,(d.trans (zx.of_below (zk bZ _))).set rfl _⟩
          case measure=>simp[intOf];omega
         ·have e1:((l.ro j).who == b.who)=false:=by simpa using he
          have HE:=hI he;clear he;go_wp2;go_roundw
          case rel=>exact⟨j+1,by omega,by go_num,by rw[show QA l.ro b.who (j+1)=QA l.ro b.who j by rw[QA,Je HE.out]];exact zd M _,d.trans (zx.of_below (zk bZ _))⟩
          case measure=>simp[intOf];omega
        ·obtain rfl:j=l.ron:=by omega
         have Z:=d.own X (λg hg e=>by have:=g8 g hg;have e:=e;omega)
         obtain⟨r0,r1,r2,r3,r4⟩:=ce5 M;have j8:=H.size;clear Q a3 c bR d a8 M hj hjl;have g0:Hid (∀ ad,(some ⟨wr.heap.size,0,none⟩:Option Addr)=some ad->∀ j u,([int i64 b.name,.string b.own,int i64 b.pe,int i64 (zas l.st b.who l.stn),int i64 (QA l.ro b.who l.ron)]:_)[j]?=some u->(wr.alloc (.cells #[int i64 b.name,.string b.own,int i64 b.pe,int i64 (zas l.st b.who l.stn),int i64 (QA l.ro b.who l.ron)] 203)).cell? (ad.add j)=some u):=by
          intro ad e
          cases e
          exact Jo (Jb wr _)
         go_wp2_with (first|(at_builtin;refine zv _ rfl _ _ 39 rfl _ 203 j0 _ 5 48 underlying39 ji i7 i8 i9 rfl (by decide) _ r _ (by rfl) (Z.alloc _) _ 1 1 _ rfl (λh=>(by cases h)) rfl g0 (by intro u hu;simp at hu;rcases hu with rfl|rfl|rfl|rfl|rfl <;> rfl) (by unfold maxLen;omega) (by omega) (by simp;omega) ?_;intro v' w3 i6 i4))
         go_roundw
         case rel =>
          refine⟨i+1,r+1,by omega,by go_num,?_,?_,(zk H _).grown i4 (by simp;omega) (λj hj=>(Z.lt j hj).1)⟩
          ·rw[zeL d7.out,List.length_append,← P.out];rfl
          ·have e:=zkP (Qn l x.bk z i) (zhD l (x.bk i))
           rw[← P.out] at e;rw[zeL d7.out,e,← a0.out];exact i6
         case measure=>simp[intOf];omega
  ·obtain rfl:i=x.bkn:=by omega
   go_wp2;go_ret;exact⟨⟨_,rfl,by rw[← P.out];exact zu W S.size⟩,c⟩
end
theorem l7End_9 (g base N R l j q d:Nat)(i f o s:Option Addr)(d1:Int)(y:OpD)(x:Off)(L C A B D E:Nat->Value)(w:World)(hq:w.heap[g]?=some (.cells #[.slice i N l,.slice f N j,.slice o R q] 38 (0,0)))(ho:zF w base (.slice i N l) (.slice f N j) (.slice o R q) N N R x L C A B D E)(b4:x.bkn=R)(a8:base<=w.heap.size)(I:y.kind=9)(d4:In y.pe 0 20)(f0:y.lgn<=3)(J:zT w s y.lgn y.lg)(b3:qj s y.lgn d)(b2:0<y.lgn->∀ a,s=some a->a.block<base)(k:Nat)(b1:0<y.lgn)(H:zW x.sa (y.lg 0) N=k)(b0:k<N)(hs:Off.Short x 1048576)(b6:x.san=N)(b5:x.ldn=N)(a0:x.bkn<=30) :
  Calls prog 93 #[.pointer (some ⟨g,0,none⟩),int i64 d1,.agg #[int i64 y.kind,.string y.own,int i64 y.name,.slice s y.lgn d,int i64 y.pe,int i64 y.len,int i64 y.hei,int i64 y.cl,.bool y.all,int i64 y.be,int i64 y.unt,int i64 y.now]] w λe w'=>zdm g base N l j i f (λ_=>False) x 0 0 0 (λz v=>z.ownsRow w.heap.size 203 5 v (Qn (x.ld k) x.bk (y.lg 0) x.bkn).length (qW (zeM (Qn (x.ld k) x.bk (y.lg 0) x.bkn)) (Qn (x.ld k) x.bk (y.lg 0) x.bkn).length)) L C A B D w e w':=by
 have c9:Hid (_/\_/\_/\_/\_/\_/\_):=⟨H,b0,hs,b6,b5,a0,b1⟩;clear H b0 hs b6 b5 a0;rw[I];obtain⟨M,lo,rfl,a9⟩:=J 0 b1;have HO:=hI ho;have Y:=hI hq;have d6:=hI I;have r:=hI b4;have d5:=hI a8;have d7:=hI J;have e4:=hI b3;have d8:=hI b2;clear ho hq I b4 a8 J b3 b2;obtain⟨pr,K⟩:∃ pr,pr=zE ⟨y.pe,y.len,y.hei,y.cl,y.all,y.be⟩ (y.lgn:Int):=⟨_,rfl⟩;have d9:=hI K;have b:Below _ w ((w.alloc (.cells #[int i64 9,.string y.own,int i64 y.name,.slice (some (⟨M,lo,none⟩:_)) y.lgn d,int i64 y.pe,int i64 y.len,int i64 y.hei,int i64 y.cl,.bool y.all,int i64 y.be,int i64 y.unt,int i64 y.now] 47)).alloc (.cells #[int i64 0,int i64 0,int i64 0,.slice none 0 0] 41)):=zk (zk bZ _) _;have bO:=zd (Jb w (.cells #[int i64 9,.string y.own,int i64 y.name,.slice (some (⟨M,lo,none⟩:_)) y.lgn d,int i64 y.pe,int i64 y.len,int i64 y.hei,int i64 y.cl,.bool y.all,int i64 y.be,int i64 y.unt,int i64 y.now] 47)) (.cells #[int i64 0,int i64 0,int i64 0,.slice none 0 0] 41);have P:=zfT w (.cells #[int i64 9,.string y.own,int i64 y.name,.slice (some (⟨M,lo,none⟩:_)) y.lgn d,int i64 y.pe,int i64 y.len,int i64 y.hei,int i64 y.cl,.bool y.all,int i64 y.be,int i64 y.unt,int i64 y.now] 47) (.cells #[int i64 0,int i64 0,int i64 0,.slice none 0 0] 41);go_enter func93,ntmps93;go_wp2_with fail;generalize ((w.alloc _).alloc _)=W at b bO P ⊢;refine(Zy _ _ _ _ _ _ _ _ d4 (by unfold In;omega)).mono ?_
 rintro e V ⟨rfl,t⟩;rw[← K];clear K;replace b:=ze b t;replace bO:=zb bO t;replace P:=zb P t;clear t W;have o0:=za bO 0 _ rfl;have e9:=zM Y.out;have d3:M<w.heap.size:=Ja w _ a9;have i5:(0:Int)<(y.lgn:Int):=by omega
 have KS:Hid (∀ z,Below _ V z->z.cell? _=some (.slice i N l)/\z.cell? _=some (.slice f N j)/\z.cell? _=some (.slice o R q)/\z.cell? _=some (.slice _ _ d)/\_):=λz h=>⟨za (zb Y.out (ze b h)) 0 _ rfl,za (zb Y.out (ze b h)) 1 _ rfl,za (zb Y.out (ze b h)) 2 _ rfl,za (zb bO h) 3 _ rfl,((ze b h).cell (p:=⟨M,lo,_⟩) d3).trans a9⟩
 have KT:Hid (∀ z,Below _ V z->∀ c0 c1 c2 c3 O,O=(((z.setCell ⟨w.heap.size+1,0,none⟩ c0).setCell ⟨w.heap.size+1,1,none⟩ c1).setCell ⟨w.heap.size+1,2,none⟩ c2).setCell ⟨w.heap.size+1,3,none⟩ c3->O.cell? _=_/\O.cell? _=_/\O.cell? _=_/\O.cell? _=_/\O.cell? _=_):=λz h c0 c1 c2 c3 O e=>by
  subst e;obtain⟨a1,a2,a3,a4,a5⟩:=KS.out z h;have H:=zaU z (w.heap.size+1) c0 c1 c2 c3;exact⟨QV H a1 (by show _;dsimp only;omega),QV H a2 (by show _;dsimp only;omega),QV H a3 (by show _;dsimp only;omega),QV H a4 (by show _;dsimp only;omega),QV H a5 (by show _;dsimp only;omega)⟩
 have b7:Hid (∀ Z,Below _ V Z->Calls _ 170 _ Z λe w5=>(∃ F n G,e=.returned (.slice F n G)/\Hid (w5.ownsRow _ 203 5 (.slice F n G) (Qn _ _ _ x.bkn).length (qW (zeM (Qn _ _ _ x.bkn)) (Qn _ _ _ x.bkn).length)))/\Below _ V w5):=λZ hZ=>by
  have hh:=(HO.out.below (ze b hZ));obtain⟨q1,q2,q3,q4,q5,q6,_⟩:=c9.out;have e1:=zkW x i f o l j q k _ Z q3 (by rw[q4];exact hh.sa.at) (by rw[q5];exact hh.ld.at) (by rw[r.out];exact hh.bk.at) q6 (by rw[q4];exact q1) (by rw[q4];exact q2) (by rw[q4,q5])
  rw[q4,q5,r.out] at e1;refine e1.mono ?_;rintro e w5 ⟨⟨u,rfl,o1⟩,d2⟩;rw[r.out];obtain⟨F,G,rfl,_⟩:=zp o1;exact⟨⟨F,_,G,rfl,zu o1 (Jp b.size hZ.size)⟩,ze hZ d2⟩
 obtain⟨v0,v1,v2,v3⟩:=ce4 P;obtain⟨e0,e1,e2,e3⟩:=fe4 P;go_upto_region 6 with fail;go_region_held3 (λw'=>w'.cell? ⟨g,0,none⟩=some (.slice i N l)/\w'.cell? ⟨g,1,none⟩=some (.slice f N j)/\w'.cell? ⟨g,2,none⟩=some (.slice o R q)/\w'.cell? ⟨w.heap.size,3,none⟩=some (.slice (some ⟨M,lo,none⟩) y.lgn d)/\w'.cell? ⟨M,lo,none⟩=some (int i64 (y.lg 0)))
  (first|(with_reducible exact KT.out _ m.out _ _ _ _ _ rfl)|(refine KS.out _ ?_;repeat(first|exact m.out|exact bZ|refine Jh ?_|refine zk ?_ _)))
  (first
   | (go_simp;go_at_call 170;(with_reducible refine Jm (b7.out _ ?_) ?_);(focus(repeat(first | exact bZ | refine Jh ?_ | refine zk ?_ _)));rintro e u2 ⟨⟨F,n,G,rfl,X⟩,a7⟩;have m:=hI a7;have c:=zb P a7;have f1:=za c 0 _ rfl;have e5:=zg c 0;have f2:=za c 1 _ rfl;have e6:=zg c 1;have f4:=za c 2 _ rfl;have e7:=zg c 2;have f5:=za c 3 _ rfl;have e8:=zg c 3;dsimp only))
 obtain⟨U,a6,S,bF⟩:=zbC (T:=(λ_=>False)) (zx.of_below (ze b m.out)) (HO.out.below (ze b m.out)) (zb Y.out (ze b m.out)) c (by omega) (int i64 0) (int i64 0) (int i64 0) (.slice F n G) rfl
 have d0:Hid _:=(zaU u2 _ (int i64 0) (int i64 0) (int i64 0) (.slice F n G)).own X.out (zQ X.out c (by decide))
 have Q:=hI U;have b9:=hI a6;have b8:=hI S;clear U a6 S;go_wp2;obtain⟨x0,x1,x2,x3⟩:=ce4 bF;refine Jj (v:=.agg #[int i64 0,int i64 0,int i64 0,.slice F n G]) (by simp[results,results93,go_sem,x0,x1,x2,x3]) rfl ?_
 have hR:=r.out;subst hR;exact⟨_,_,_,_,rfl,d0.out,Q.out,b9.out,b8.out⟩
theorem zoU (g base N R a1 a0 P S:Nat)(Z Y M q:Option Addr)(c:Int)(y:OpD)(x:Off)(L C A B D E:Nat->Value)(w:World)(hq:w.heap[g]?=some (.cells #[(Z,N,a1),(Y,N,a0),(M,R,P)] 38 (0,0)))(ho:zF w base (Z,N,a1) (Y,N,a0) (M,R,P) N N R x L C A B D E)(i7:x.bkn=R)(H:base<=w.heap.size)(i0:y.kind=2∨y.kind=3)(j1:In y.pe 0 20)(k7:y.lgn<=3)(i3:zT w q y.lgn y.lg)(i6:qj q y.lgn S)(i4:0<y.lgn->∀ a,q=some a->a.block<base)(hR:R<30) :
  Calls prog 93 #[.pointer (some (g,0)),c,.agg (y,q,S)] w λe w'=>zdm g base N a1 a0 Z Y (λb=>b=g∨(Value.slice M R P).ownBlock=some b) { x with bkn:=R+1,bk:=zah x.bk R (Qf R c y) } 0 ((R:Int)+1) (zE ⟨y.pe,y.len,y.hei,y.cl,y.all,y.be⟩ (y.lgn:Int)) (λ_ v=>v=.slice none 0 0) L C A B D w e w':=by
 obtain⟨n0,ni,g1,g3,g4⟩:=info_parts Tryz.infoInt;obtain⟨r0,ri,j4,j5,j6⟩:=info_parts Tryz.infoBookingO;obtain⟨κ,hκ⟩:∃ κ,κ=y.kind:=⟨_,rfl⟩;rw[← hκ] at i0 ⊢;have HO:=hI ho;have HQ:=hI hq;have g8:=hI hκ;have k1:=hI i7;have g5:=hI H;have i8:=hI i3;have c9:=hI i6;have k0:=hI i4;clear ho hq hκ i7 H i3 i6 i4;obtain⟨k,g0⟩:∃ k,k=zE ⟨y.pe,y.len,y.hei,y.cl,y.all,y.be⟩ (y.lgn:Int):=⟨_,rfl⟩;have b9:=hI g0;have G:Below _ w ((w.alloc (.cells #[κ,y.own,y.name,(q,y.lgn,S),y.pe,y.len,y.hei,y.cl,y.all,y.be,y.unt,y.now] 47)).alloc (.cells #[(),(),(),True] 41)):=zk (zk bZ _) _;have bO:=zd (Jb w (.cells #[κ,y.own,y.name,(q,y.lgn,S),y.pe,y.len,y.hei,y.cl,y.all,y.be,y.unt,y.now] 47)) (.cells #[(),(),(),True] 41);have bA:=zfT w (.cells #[κ,y.own,y.name,(q,y.lgn,S),y.pe,y.len,y.hei,y.cl,y.all,y.be,y.unt,y.now] 47) (.cells #[(),(),(),True] 41)
 rcases i0 with rfl|rfl
 all_goals
  go_enter func93,ntmps93;go_wp2_with fail;generalize ((w.alloc _).alloc _)=W at G bO bA ⊢;refine(Zy _ _ _ _ _ _ _ _ j1 (by unfold In;omega)).mono ?_
  rintro e V ⟨rfl,b4⟩;rw[← g0];clear g0;replace G:=ze G b4;replace bO:=zb bO b4;replace bA:=zb bA b4;clear b4 W;have o0:=za bO 0 _ rfl;have k2:((R:Int) == 30)=false:=by simp;omega
  have k3:(R == 30)=false:=by simp;omega
  have k8:IntKind.i64.wrap ((R:Int)+1)=(R:Int)+1:=by rw[Jk];omega
  have zq:=za (zb HQ G) 2 _ rfl;have b7:Hid (∀ z,_->zT z q _ _):=λz h=>i8.below (ze G h)
  have KS:Hid (∀ z,Below _ V z->z.cell? _=some (M,R,P)/\z.cell? _=some (.string _)/\z.cell? _=some (.slice q _ S)/\z.cell? _=some (.int _ _)/\z.cell? _=some (.int _ _)/\z.cell? _=some (.int _ _)/\z.cell? _=some (.int _ _)/\z.cell? _=some (.bool _)/\z.cell? _=some (.int _ _)):=λz h=>⟨za (zb HQ (ze G h)) 2 _ rfl,za (zb bO h) 1 _ rfl,za (zb bO h) 3 _ rfl,za (zb bO h) 4 _ rfl,za (zb bO h) 5 _ rfl,za (zb bO h) 6 _ rfl,za (zb bO h) 7 _ rfl,za (zb bO h) 8 _ rfl,za (zb bO h) 9 _ rfl⟩
  go_upto_region 11 with fail;refine qg 18 19 (λw'=>w'.cell? _=_/\w'.cell? _=_/\w'.cell? _=_/\w'.cell? _=_/\w'.cell? _=_/\w'.cell? _=_/\w'.cell? _=_/\w'.cell? _=_/\w'.cell? _=_) rfl (by kernel_rfl) (KS _ (Jh bZ)) (λhS=>?_)
  simp only[List.replicate_succ,List.replicate_zero]
  iterate 9 (refine tFL 0 (v:=?_) rfl (by kernel_rfl) (λ_ _ _ h=>h) rfl (by assumption) ?_ ?_;rotate_left;(focus(intro w' h;(try dsimp only at h);go_simp;try with_reducible rfl));simp only[Act.put,sB,sZ,sS])
  iterate 2 (refine tFL 10 (v:=?_) rfl (by kernel_rfl) (λ_ _ _ h=>h) rfl (by assumption) ?_ ?_;rotate_left;(focus(intro w' h;(try dsimp only at h);go_simp;try with_reducible rfl));simp only[Act.put,sB,sZ,sS])
  iterate 3 (refine tFL 13 (v:=?_) rfl (by kernel_rfl) (λ_ _ _ h=>h) rfl (by assumption) ?_ ?_;rotate_left;(focus(intro w' h;(try dsimp only at h);go_simp;try with_reducible rfl));simp only[Act.put,sB,sZ,sS])
  refine zj (rs:=[9,17]) (by kernel_rfl) (by simp) ?_
  refine zc.consL rfl (λK d=>?_) (zc.consL rfl (λK d=>?_) zc.nil)
  focus
   go_simp;refine d _ _ (KS _ (by repeat(first|with_reducible exact l|with_reducible exact bZ|with_reducible refine Jh ?_|with_reducible refine zk ?_ _))) (λhS=>?_)
   clear d K;simp only[sZ,sS];refine zj (rs:=[12,17]) (by kernel_rfl) (by simp) ?_
   refine zc.consL rfl (λK d=>?_) (zc.consL rfl (λK d=>?_) zc.nil)
   focus
    refine zP (by rfl) _ _ 27 (by rfl) 3 n0 _ 1 8 underlying27 ni g1 g3 g4 rfl (by decide) _ _ (by rfl) (by first|exact Jr _|omega|(simp;done)|(simp;omega)) (by repeat(first|((with_reducible refine Qa _ _ _ ?_);(first|with_reducible rfl|(simp;done)))|with_reducible refine zK ?_|with_reducible refine zd ?_ _)) q _ S _ (by rfl) c9.2.2 (by rw[Zn,Nat.mul_one]) (QY (b7 _ (by repeat(first|exact bZ|refine Jh ?_|refine zk ?_ _)))) (Qd _ _) (by unfold maxLen;omega) (by omega) ?_;intro m n u1 U X T;clear T;have l:Hid (Below _ V u1):=(by show Below _ _ _;refine ze ?_ (zr U);exact(by repeat(first|exact bZ|refine Jh ?_|refine zk ?_ _)));refine d _ _ (KS _ l) (λhS=>?_)
    clear d K;simp only[Act.put,sB,sZ,sS]
    (refine tFL 16 (v:=?_) rfl (by kernel_rfl) (λ_ _ _ h=>h) rfl (by assumption) ?_ ?_;rotate_left;(focus(intro w' h;(try dsimp only at h);go_simp;try with_reducible rfl));simp only[Act.put,sB,sZ,sS])
    refine zj (rs:=[17]) (by kernel_rfl) (by simp) ?_
    refine zc.consL rfl (λK d=>?_) zc.nil
    focus
     go_simp;refine d.out _ _ (KS.out _ (by repeat(first|with_reducible exact l.out|with_reducible exact bZ|with_reducible refine Jh ?_|with_reducible refine zk ?_ _))) (λhS=>?_)
     clear d K;simp only[sZ,sS];refine zj (rs:=[18]) (by kernel_rfl) (by simp) ?_
     refine zc.lastL rfl (λK d=>?_)
     go_simp;refine d _ _ ?_;clear d K;refine zX (by kernel_rfl) ?_ _
     have f:=Jb u1 (.cells #[int i64 ((R:Int)+1),c,y.own,(m,y.lgn,n),y.pe,y.len,y.hei,y.cl,y.all,y.be,int i64 2,(),k] 150);have o:=zk l (.cells #[int i64 ((R:Int)+1),c,y.own,(m,y.lgn,n),y.pe,y.len,y.hei,y.cl,y.all,y.be,int i64 2,(),k] 150);have r:Hid _:=zo (zk bZ (.cells #[int i64 ((R:Int)+1),c,y.own,(m,y.lgn,n),y.pe,y.len,y.hei,y.cl,y.all,y.be,int i64 2,(),k] 150)) X;generalize u1.alloc _=F at f o r ⊢;have Q:=l.size;generalize u1.heap.size=bb at f Q ⊢
   rotate_left 1
   focus
    go_simp;refine d _ _ (KS _ (by repeat(first|with_reducible exact l|with_reducible exact bZ|with_reducible refine Jh ?_|with_reducible refine zk ?_ _))) (λhS=>?_)
    clear d K;simp only[sZ,sS];refine zj (rs:=[12]) (by kernel_rfl) (by simp) ?_
    refine zc.consL rfl (λK d=>?_) zc.nil
    focus
     refine zP (by rfl) _ _ 27 (by rfl) 3 n0 _ 1 8 underlying27 ni g1 g3 g4 rfl (by decide) _ _ (by rfl) (by first|exact Jr _|omega|(simp;done)|(simp;omega)) (by repeat(first|((with_reducible refine Qa _ _ _ ?_);(first|with_reducible rfl|(simp;done)))|with_reducible refine zK ?_|with_reducible refine zd ?_ _)) q _ S _ (by rfl) c9.2.2 (by rw[Zn,Nat.mul_one]) (QY (b7 _ (by repeat(first|exact bZ|refine Jh ?_|refine zk ?_ _)))) (Qd _ _) (by unfold maxLen;omega) (by omega) ?_;intro m n u1 U X T;clear T;have l:Hid (Below _ V u1):=(by show Below _ _ _;refine ze ?_ (zr U);exact(by repeat(first|exact bZ|refine Jh ?_|refine zk ?_ _)));refine d _ _ (KS _ l) (λhS=>?_)
     clear d K;simp only[Act.put,sB,sZ,sS]
     (refine tFL 16 (v:=?_) rfl (by kernel_rfl) (λ_ _ _ h=>h) rfl (by assumption) ?_ ?_;rotate_left;(focus(intro w' h;(try dsimp only at h);go_simp;try with_reducible rfl));simp only[Act.put,sB,sZ,sS])
     have I:u1.heap[V.heap.size+1]?=some (.cells _ 150 _):=zb (by repeat(first|((with_reducible refine Qa _ _ _ ?_);(first|with_reducible rfl|(simp;done)))|with_reducible refine zK ?_|with_reducible refine zd ?_ _)) (zr U)
     obtain⟨e5,e6,e7,e8,e9,f0,f1,f2,f4,f5,a9,b0,b1⟩:=zeX I;obtain⟨d1,d2,d3,d4,d5,d6,d7,d8,d9,e4,a6,a7,a8⟩:=fe13 I;refine zj (rs:=[18]) (by kernel_rfl) (by simp) ?_
     refine zc.lastL rfl (λK d=>?_)
     go_simp;refine d _ _ ?_;clear d K;refine zX (by kernel_rfl) ?_ _
     have f:=zev I (int i64 ((R:Int)+1)) c y.own (m,y.lgn,n) y.pe y.len y.hei y.cl y.all y.be (int i64 2) () k;have o:=zew l (b:=V.heap.size+1) (by omega) (int i64 ((R:Int)+1)) c y.own (m,y.lgn,n) y.pe y.len y.hei y.cl y.all y.be (int i64 2) () k
     have r:Hid _:=(zdl u1 _ (int i64 ((R:Int)+1)) c y.own (m,y.lgn,n) y.pe y.len y.hei y.cl y.all y.be (int i64 2) () k).own X (zQ X I (by decide))
     clear I e5 d1 e6 d2 e7 d3 e8 d4 e9 d5 f0 d6 f1 d7 f2 d8 f4 d9 f5 e4 a9 a6 b0 a7 b1 a8;generalize (((((((((((((u1.setCell _ _).setCell _ _).setCell _ _).setCell _ _).setCell _ _).setCell _ _).setCell _ _).setCell _ _).setCell _ _).setCell _ _).setCell _ _).setCell _ _).setCell _ _)=F at f o r ⊢;have Q:V.heap.size<=V.heap.size+1:=(by omega)
     generalize V.heap.size+1=bb at f Q ⊢
  rotate_left 2
  focus
   go_simp;refine d _ _ (KS _ (by repeat(first|with_reducible exact l|with_reducible exact bZ|with_reducible refine Jh ?_|with_reducible refine zk ?_ _))) (λhS=>?_)
   clear d K;simp only[sZ,sS];refine zj (rs:=[9]) (by kernel_rfl) (by simp) ?_
   refine zc.consL rfl (λK d=>?_) zc.nil
   focus
    go_simp;refine d _ _ (KS _ (by repeat(first|with_reducible exact l|with_reducible exact bZ|with_reducible refine Jh ?_|with_reducible refine zk ?_ _))) (λhS=>?_)
    clear d K;simp only[sZ,sS];refine zj (rs:=[12]) (by kernel_rfl) (by simp) ?_
    refine zc.consL rfl (λK d=>?_) zc.nil
    focus
     refine zP (by rfl) _ _ 27 (by rfl) 3 n0 _ 1 8 underlying27 ni g1 g3 g4 rfl (by decide) V.heap.size _ (by rfl) (by first|exact Jr _|omega|(simp;done)|(simp;omega)) (by repeat(first|((with_reducible refine Qa _ _ _ ?_);(first|with_reducible rfl|(simp;done)))|with_reducible refine zK ?_|with_reducible refine zd ?_ _)) q _ S _ (by rfl) c9.2.2 (by rw[Zn,Nat.mul_one]) (QY (b7 _ (by repeat(first|exact bZ|refine Jh ?_|refine zk ?_ _)))) (Qd _ _) (by unfold maxLen;omega) (by omega) ?_;intro m n u1 U X T;clear T;have l:Hid (Below _ V u1):=(by show Below _ _ _;refine ze ?_ (zr U);exact(by repeat(first|exact bZ|refine Jh ?_|refine zk ?_ _)));refine d _ _ (KS _ l) (λhS=>?_)
     clear d K;simp only[Act.put,sB,sZ,sS]
     (refine tFL 16 (v:=?_) rfl (by kernel_rfl) (λ_ _ _ h=>h) rfl (by assumption) ?_ ?_;rotate_left;(focus(intro w' h;(try dsimp only at h);go_simp;try with_reducible rfl));simp only[Act.put,sB,sZ,sS])
     have I:u1.heap[V.heap.size]?=some (.cells _ 150 _):=zb (by repeat(first|((with_reducible refine Qa _ _ _ ?_);(first|with_reducible rfl|(simp;done)))|with_reducible refine zK ?_|with_reducible refine zd ?_ _)) (zr U)
     obtain⟨e5,e6,e7,e8,e9,f0,f1,f2,f4,f5,a9,b0,b1⟩:=zeX I;obtain⟨d1,d2,d3,d4,d5,d6,d7,d8,d9,e4,a6,a7,a8⟩:=fe13 I;refine zj (rs:=[18]) (by kernel_rfl) (by simp) ?_
     refine zc.lastL rfl (λK d=>?_)
     go_simp;refine d _ _ ?_;clear d K;refine zX (by kernel_rfl) ?_ _
     have f:=zev I (int i64 ((R:Int)+1)) c y.own (m,y.lgn,n) y.pe y.len y.hei y.cl y.all y.be (int i64 2) () k;have o:=zew l (b:=V.heap.size) (by omega) (int i64 ((R:Int)+1)) c y.own (m,y.lgn,n) y.pe y.len y.hei y.cl y.all y.be (int i64 2) () k
     have r:Hid _:=(zdl u1 _ (int i64 ((R:Int)+1)) c y.own (m,y.lgn,n) y.pe y.len y.hei y.cl y.all y.be (int i64 2) () k).own X (zQ X I (by decide))
     clear I e5 d1 e6 d2 e7 d3 e8 d4 e9 d5 f0 d6 f1 d7 f2 d8 f4 d9 f5 e4 a9 a6 b0 a7 b1 a8;generalize (((((((((((((u1.setCell (V.heap.size,0) (int i64 ((R:Int)+1))).setCell (V.heap.size,1) c).setCell (V.heap.size,2) y.own).setCell (V.heap.size,3) (m,y.lgn,n)).setCell (V.heap.size,4) y.pe).setCell (V.heap.size,5) y.len).setCell (V.heap.size,6) y.hei).setCell (V.heap.size,7) y.cl).setCell (V.heap.size,8) y.all).setCell (V.heap.size,9) y.be).setCell (V.heap.size,10) (int i64 2)).setCell (V.heap.size,11) ()).setCell (V.heap.size,12) k)=F at f o r ⊢;obtain⟨bb,h7⟩:∃ bb,bb=V.heap.size:=⟨_,rfl⟩;rw[← h7] at f ⊢;have Q:V.heap.size<=bb:=by omega
     clear h7
  all_goals
   clear hS U X l;have H:=ze G o;have a2:=zb bO o;have a5:=zb bA o;have o0:=za a2 0 _ rfl;have k4:w.heap.size+1<V.heap.size:=zM bA;have f6:=za f 10 _ rfl;have f7:=za f 11 _ rfl;have f8:=zg f 10;have f9:=zg f 11
   first
   | have j2:∀ v,(F.setCell (bb,10) v).cell? (w.heap.size,10)=some (int i64 y.unt):=λv=>za (zD (b':=bb) a2 10 v (by omega)) 10 _ rfl
    go_upto_region 15 with fail;have O:((F.setCell (bb,10) (int i64 1)).setCell (bb,11) y.unt).heap[bb]?=some (.cells #[int i64 ((R:Int)+1),c,y.own,(m,y.lgn,n),y.pe,y.len,y.hei,y.cl,y.all,y.be,int i64 1,y.unt,k] 150 (0,0)):=by simpa using zm (zm f 10 (int i64 1)) 11 y.unt
    have a3:Below V.heap.size V ((F.setCell (bb,10) (int i64 1)).setCell (bb,11) y.unt):=Below.setCell (p:=(bb,11)) (Below.setCell (p:=(bb,10)) o Q _) Q _;have b3:Hid (((F.setCell ⟨bb,10,none⟩ (int i64 1)).setCell ⟨bb,11,none⟩ (int i64 y.unt)).ownsRow V.heap.size 3 1 (.slice m y.lgn n) y.lgn (zS y.lg y.lgn)):=(((zx.refl F (λb=>b=bb)).set (a:=⟨bb,10,none⟩) rfl (int i64 1)).set (a:=⟨bb,11,none⟩) rfl (int i64 y.unt)).own r.out (zQ r.out f (by decide))
    generalize (F.setCell (bb,10) (int i64 1)).setCell (bb,11) y.unt=F2 at O a3 b3 ⊢;obtain⟨st,e1⟩:∃ st:Int,st=1:=⟨_,rfl⟩;obtain⟨J,e2⟩:∃ J,J=y.unt:=⟨_,rfl⟩;have b8:Hid (Qf R c y=⟨(R:Int)+1,c,y.own,y.lgn,y.lg,y.pe,y.len,y.hei,y.cl,y.all,y.be,st,J,k⟩):=by show _=_;unfold Qf;rw[← g8.out,← b9.out,e1,e2];rfl
    replace O:F2.heap[bb]?=some (.cells #[int i64 ((R:Int)+1),c,y.own,(m,y.lgn,n),y.pe,y.len,y.hei,y.cl,y.all,y.be,st,J,k] 150 (0,0)):=by rw[e1,e2];exact O
    clear f6 f7 f8 f9 o0 j2 f o r H a2 a5 F e1 e2
   | go_upto_region 15 with fail
    have O:=f;have a3:=o;have b3:=hI r;generalize F=F2 at O a3 b3 f o r H a2 a5 o0 f6 f7 f8 f9 ⊢;obtain⟨st,e1⟩:∃ st:Int,st=2:=⟨_,rfl⟩;obtain⟨J,e2⟩:∃ J:Int,J=0:=⟨_,rfl⟩;have b8:Hid (Qf R c y=⟨(R:Int)+1,c,y.own,y.lgn,y.lg,y.pe,y.len,y.hei,y.cl,y.all,y.be,st,J,k⟩):=by show _=_;unfold Qf;rw[← g8.out,← b9.out,e1,e2];rfl
    replace O:F2.heap[bb]?=some (.cells #[int i64 ((R:Int)+1),c,y.own,(m,y.lgn,n),y.pe,y.len,y.hei,y.cl,y.all,y.be,st,J,k] 150 (0,0)):=by rw[e1,e2];exact O
    clear f6 f7 f8 f9 o0 f o r H a2 a5 e1 e2
   have H:=ze G a3;have a2:=zb bO a3;have a5:=zb bA a3;have qF:=zb HQ H;have k5:g<w.heap.size:=zM HQ;have d0:Hid (∀ z:World,z.heap[g]?=some (.cells #[(Z,N,a1),(Y,N,a0),(M,R,P)] 38 (0,0))->z.heap[bb]?=some (.cells #[int i64 ((R:Int)+1),c,y.own,(m,y.lgn,n),y.pe,y.len,y.hei,y.cl,y.all,y.be,st,J,k] 150 (0,0))->z.cell? (g,2)=some (M,R,P)/\z.cell? (bb,0)=some (int i64 ((R:Int)+1))/\z.cell? (bb,1)=some (int i64 c)/\z.cell? (bb,2)=some (.string y.own)/\z.cell? (bb,3)=some (m,y.lgn,n)/\z.cell? (bb,4)=some (int i64 y.pe)/\z.cell? (bb,5)=some (int i64 y.len)/\z.cell? (bb,6)=some (int i64 y.hei)/\z.cell? (bb,7)=some (int i64 y.cl)/\z.cell? (bb,8)=some (.bool y.all)/\z.cell? (bb,9)=some (int i64 y.be)/\z.cell? (bb,10)=some (int i64 st)/\z.cell? (bb,11)=some (int i64 J)/\z.cell? (bb,12)=some (int i64 k)):=λz h1 h2=>⟨za h1 2 _ rfl,za h2 0 _ rfl,za h2 1 _ rfl,za h2 2 _ rfl,za h2 3 _ rfl,za h2 4 _ rfl,za h2 5 _ rfl,za h2 6 _ rfl,za h2 7 _ rfl,za h2 8 _ rfl,za h2 9 _ rfl,za h2 10 _ rfl,za h2 11 _ rfl,za h2 12 _ rfl⟩
   refine qg 10 11 (λw'=>w'.cell? ⟨g,2,none⟩=some (.slice M R P)/\w'.cell? ⟨bb,0,none⟩=some (int i64 ((R:Int)+1))/\w'.cell? ⟨bb,1,none⟩=some (int i64 c)/\w'.cell? ⟨bb,2,none⟩=some (.string y.own)/\w'.cell? ⟨bb,3,none⟩=some (.slice m y.lgn n)/\w'.cell? ⟨bb,4,none⟩=some (int i64 y.pe)/\w'.cell? ⟨bb,5,none⟩=some (int i64 y.len)/\w'.cell? ⟨bb,6,none⟩=some (int i64 y.hei)/\w'.cell? ⟨bb,7,none⟩=some (int i64 y.cl)/\w'.cell? ⟨bb,8,none⟩=some (.bool y.all)/\w'.cell? ⟨bb,9,none⟩=some (int i64 y.be)/\w'.cell? ⟨bb,10,none⟩=some (int i64 st)/\w'.cell? ⟨bb,11,none⟩=some (int i64 J)/\w'.cell? ⟨bb,12,none⟩=some (int i64 k)) rfl (by kernel_rfl) (d0.out _ qF O) (λhS=>?_)
   simp only[List.replicate_succ,List.replicate_zero]
   iterate 6 (refine tFL 0 (v:=?_) rfl (by kernel_rfl) (λ_ _ _ h=>h) rfl (by assumption) ?_ ?_;rotate_left;(focus(intro w' h;(try dsimp only at h);go_simp;try with_reducible rfl));simp only[Act.put,sB,sZ,sS])
   refine zj (rs:=[6]) (by kernel_rfl) (by simp) ?_
   refine zc.consL rfl (λK d=>?_) zc.nil
   refine zdk (by rfl) 36 150 1 #[(0,.tmp 73)] (by rfl) underlying36 #[int i64 ((R:Int)+1),c,y.own,(m,y.lgn,n),y.pe,y.len,y.hei,y.cl,y.all,y.be,st,J,k] (Eq.trans (congrArg (Program.builtSlice prog 150 1) (show _=[(0,Value.agg #[int i64 ((R:Int)+1),c,y.own,(m,y.lgn,n),y.pe,y.len,y.hei,y.cl,y.all,y.be,st,J,k])] from by first|(simp[go_sem];done)|rfl|kernel_rfl)) (zeO ((R:Int)+1) c y.pe y.len y.hei y.cl y.be st J k y.own y.all m y.lgn n)) ?_
   refine d _ _ (d0 _ (zd qF _) (zd O _)) (λhS=>?_)
   clear d K;simp only[Act.put,sB,sZ,sS];have j9:F2.drew.heap.size=F2.heap.size:=rfl;refine zj (rs:=[7]) (by kernel_rfl) (by simp) ?_
   refine zc.consL rfl (λK d=>?_) zc.nil
   have a4:Hid (zF (F2.drew.alloc (.cells #[int i64 ((R:Int)+1),c,y.own,(m,y.lgn,n),y.pe,y.len,y.hei,y.cl,y.all,y.be,st,J,k] 150)) base (Z,N,a1) (Y,N,a0) (M,R,P) N N R x L C A B D E):=HO.below (zk (Jh H) _);refine step_append_lies _ (by rfl) (.tmp 72) (.tmp 74) 36 (by rfl) base 150 r0 (.agg #[(),(),False,True,(),(),(),(),.bool false,(),(),(),()]) 13 128 underlying36 ri j4 j5 j6 rfl (by decide) _ R (zbg x.bk E R) (by rfl) a4.out.bk.row _ 1 1 [int i64 ((R:Int)+1),c,y.own,(m,y.lgn,n),y.pe,y.len,y.hei,y.cl,y.all,y.be,st,J,k] (by rfl) (by rfl) (Jo (cs:=#[int i64 ((R:Int)+1),c,y.own,(m,y.lgn,n),y.pe,y.len,y.hei,y.cl,y.all,y.be,st,J,k]) (t:=150) (fr:=(0,0)) (Jb F2.drew _)) (by intro u hu;simp at hu;rcases hu with rfl|rfl|rfl|rfl|rfl|rfl|rfl|rfl|rfl|rfl|rfl|rfl|rfl <;> rfl) (by decide) (by unfold maxLen;omega) (by omega) (by have:=g5.out;have:=H.size;simp;omega) _ rfl ?_
   intro g2 s u2 i5 b2 j7 j8;have qU:=(qJ b2).blk (zd (zK qF) (.cells #[int i64 ((R:Int)+1),c,y.own,(m,y.lgn,n),y.pe,y.len,y.hei,y.cl,y.all,y.be,st,J,k] 150)) (λe=>by obtain⟨cs,e2⟩:=zA a4.bk.row g e;rw[zd (zK qF) (.cells #[int i64 ((R:Int)+1),c,y.own,(m,y.lgn,n),y.pe,y.len,y.hei,y.cl,y.all,y.be,st,J,k] 150)] at e2;simp at e2)
   have bU:=(qJ b2).blk (zd (zK O) (.cells #[int i64 ((R:Int)+1),c,y.own,(m,y.lgn,n),y.pe,y.len,y.hei,y.cl,y.all,y.be,st,J,k] 150)) (λe=>by have h1:=(HO.bk.row.lt bb e).2;have:=G.size;omega)
   have aU:=(qJ b2).blk (zd (zK a5) (.cells #[int i64 ((R:Int)+1),c,y.own,(m,y.lgn,n),y.pe,y.len,y.hei,y.cl,y.all,y.be,st,J,k] 150)) (λe=>by have h1:=(HO.bk.row.lt _ e).2;omega)
   refine d _ _ (d0 _ qU bU) (λhS=>?_)
   clear d K;simp only[Act.put,sB,sZ,sS]
   iterate 2 (refine tFL 8 (v:=?_) rfl (by kernel_rfl) (λ_ _ _ h=>h) rfl (by assumption) ?_ ?_;rotate_left;(focus(intro w' h;(try dsimp only at h);go_simp;try with_reducible rfl));simp only[Act.put,sB,sZ,sS])
   have q0:=za qU 2 _ rfl;have j3:=zg qU 2;refine zj (rs:=[10]) (by kernel_rfl) (by simp) ?_
   refine zc.lastL rfl (λK d=>?_)
   go_simp;refine d _ _ ?_;clear d K;refine zX (by kernel_rfl) ?_ _
   have qG:=zlK qU (some (g2,0),R+1,s);have bG:=zD (b':=g) bU 2 (some (g2,0),R+1,s) (by omega)
   have aG:=zD (b':=g) aU 2 (some (g2,0),R+1,s) (by omega)
   have j0:Hid (zF (F2.drew.alloc (.cells #[int i64 ((R:Int)+1),c,y.own,(m,y.lgn,n),y.pe,y.len,y.hei,y.cl,y.all,y.be,st,J,k] 150)) base (Z,N,a1) (Y,N,a0) (M,R,P) N N R { x with bkn:=R+1,bk:=zah x.bk R (Qf R c y) } L C A B D E):=⟨a4.sa,a4.ld,a4.bk.congr (λi hi=>(zaf _ _ _ (by omega)).symm)⟩
   have i9:Hid (zF u2 base (Z,N,a1) (Y,N,a0) (some (g2,0),R+1,s) N N (R+1) { x with bkn:=R+1,bk:=zah x.bk R (Qf R c y) } L C A B D (atV E R (m,y.lgn,n))):=by
    refine j0.book (lim:=V.heap.size) (λi hi b e=>by have h1:=((HO.bk.legs i hi).lt b e).2;have:=G.size;omega) ?_ (Jp g5 G.size) b2 ?_
    ·dsimp only
     rw[ZL,b8.out];exact zo (zk (Jh bZ) _) b3
    ·have e1:zbg (zah x.bk R (Qf R c y)) E R=zbg x.bk E R:=List.map_congr_left λj hj=>by
      have k6:j<R*13:=by simpa using hj
      unfold zZ bkC;rw[zaf _ _ _ (by omega)]
     dsimp only;rw[e1];unfold bkC;rw[ZL,qu,b8.out];exact i5
   have b5:zx u2 (u2.setCell (g,2) (some (g2,0),R+1,s)) (λb=>b=g):=(zx.refl u2 (λb=>b=g)).set (a:=(g,2)) rfl _
   have h5:Hid _:=i9.box b5 qU (by decide)
   have h0:Hid (zx w (u2.setCell (g,2) (some (g2,0),R+1,s)) (λb=>b=g∨(Value.slice M R P).ownBlock=some b)):=((zx.of_below (zk (Jh H) _)).trans ((qJ b2).mono (λb e=>.inr e))).trans (b5.mono (λb e=>.inl e))
   have c0:=za bG 0 _ rfl;generalize u2.setCell (g,2) (some (g2,0),R+1,s)=Z1 at qG bG aG b5 h5 h0 c0 ⊢;obtain⟨h4,h6,g9,bF⟩:=zbC h0 h5 qG aG (by omega) () (int i64 ((R:Int)+1)) k True rfl
   obtain⟨v0,v1,v2,v3⟩:=ce4 aG;obtain⟨e0,e1,e2,e3⟩:=fe4 aG;have b6:Hid _:=h4;have g7:Hid _:=h6;have g6:Hid _:=g9;clear h4 h6 g9;clear q0 j3 hS b5 i5;go_wp2;obtain⟨x0,x1,x2,x3⟩:=ce4 bF;refine Jj (v:=.agg #[(),int i64 ((R:Int)+1),k,True]) (by simp[results,results93,go_sem,x0,x1,x2,x3]) rfl ?_
   rw[b9.out] at b6 g7 g6 ⊢;exact⟨_,_,_,_,rfl,rfl,b6,g7,g6⟩
def zbR (x:Off)(b:ql)(y:OpD):Int :=
 if y.kind=4 then b.price
 else if y.kind=5 then zE ⟨y.pe,y.len,y.hei,y.cl,y.all,y.be⟩ y.lgn
 else if y.kind=6 then Z6 b.price ((x.sa (zW x.sa (b.lg 0) x.san)).dep - y.now)
 else 0
def zfu (x:Off)(b:Int)(y:OpD)(m:Nat)(c:Off)(a name price:Int):Prop :=
 (y.kind=1/\c=x/\a=0/\name=0/\price=zE ⟨y.pe,y.len,y.hei,y.cl,y.all,y.be⟩ y.lgn) ∨
 (y.kind=9/\c=x/\a=0/\name=0/\price=0) ∨
 ((y.kind=2∨y.kind=3)/\x.bkn=30/\c=x/\a=8/\name=0/\price=0) ∨
 ((y.kind=2∨y.kind=3)/\x.bkn<30/\c={ x with bkn:=x.bkn+1,bk:=zah x.bk x.bkn (Qf x.bkn b y) }/\a=0/\name=(x.bkn:Int)+1/\price=zE ⟨y.pe,y.len,y.hei,y.cl,y.all,y.be⟩ y.lgn) ∨
 (In y.kind 4 8/\m<x.bkn/\c={ x with bk:=zah x.bk m (qx (x.bk m) b y) }/\a=0/\name=y.name/\price=zbR x (x.bk m) y)
def zdA (x:Off)(y:OpD)(base:Nat)(z:World)(v:Value):Prop :=
 (y.kind=9->∃ k,zW x.sa (y.lg 0) x.san=k/\k<x.san/\z.ownsRow base 203 5 v (Qn (x.ld k) x.bk (y.lg 0) x.bkn).length (qW (zeM (Qn (x.ld k) x.bk (y.lg 0) x.bkn)) (Qn (x.ld k) x.bk (y.lg 0) x.bkn).length))/\(y.kind≠9->v=.slice none 0 0)
theorem zdm.mono {g base N m l:Nat}{k j:Option Addr}{T o:Nat->Prop}{p:Off}{f name price:Int}{n i:World->Value->Prop}{L C A B D:Nat->Value}{w:World}{e:Ending}{w':World}(h:zdm g base N m l k j T p f name price n L C A B D w e w')(t:∀ b,T b->o b)(s:∀ v,n w' v->i w' v):zdm g base N m l k j o p f name price i L C A B D w e w':=by
 obtain⟨a,b,c,d,h1,h2,h3,q,r⟩:=h;exact⟨a,b,c,d,h1,s _ h2,h3,q,r.mono t⟩
theorem zjg {y:OpD}(h:zac y):In y.pe 0 20/\y.lgn<=3:=by
 have h1:=h.2.2.2.2.1;have h2:=h.2.2.2.1;unfold qA at h1;unfold qi at h2
 by_cases c:zJ y.kind
 ·rw[Jf c] at h1 h2
  have:In y.pe 1 20:=h1.1;unfold In at this ⊢
  omega
 ·rw[Je c] at h1 h2
  have:y.pe=0:=h1.1;refine⟨by rw[this];unfold In;omega,?_⟩
  split at h2 <;> omega
theorem l7End_any (g base N R k j o r m:Nat)(f d l n:Option Addr)(q:Int)(y:OpD)(x:Off)(L C A B D E:Nat->Value)(w:World)(M:w.heap[g]?=some (.cells #[(f,N,k),(d,N,j),(l,R,o)] 38 (0,0)))(K:zF w base (f,N,k) (d,N,j) (l,R,o) N N R x L C A B D E)(p:x.bkn=R)(I:x.san=N)(Z:x.ldn=N)(s:base<=w.heap.size)(t:zT w n y.lgn y.lg)(H:qj n y.lgn r)(F:0<y.lgn->∀ a,n=some a->a.block<base)
  (T:ZZ x y m) (hT:QJ x.san x.sa) (hR:R<=30) (hs:Off.Short x 1048576) (X:∀ i,i<R->zad x.san x.sa (x.bk i).lgn (x.bk i).lg) :
  Calls prog 93 #[.pointer (some (g,0)),q,.agg (y,n,r)] w λe w'=>∃ x2 code name price,zfu x q y m x2 code name price/\zdm g base N k j f d (λb=>b=g∨(Value.slice l R o).ownBlock=some b) x2 code name price (zdA x y w.heap.size) L C A B D w e w':=by
 obtain⟨G,u⟩:=zjg T.1;have hN:N<=6:=by rw[← I];exact hT.1
 have hk:=T.1.1;have nil:∀ z v,y.kind≠9->_->zdA x y w.heap.size z v:=λz v h e=>⟨λV=>absurd V h,λ_=>e⟩
 by_cases hnamed:In y.kind 4 8
 ·obtain⟨J,O,_⟩:=T.2.2 hnamed
  rw[p] at O;have n9:y.kind≠9:=by unfold In at hnamed;omega
  have fin:∀ {e w' price},_->zdm g _ N k j f d _ _ 0 _ price (λ_ v=>v=_) L C A B D w e w' ->
    ∃ x2 code name price,zfu x q y m x2 code name price/\zdm g base N k j f d (λb=>b=g∨(Value.slice l R o).ownBlock=some b) x2 code name price _ L C A B D w e w':=λhp h =>
   ⟨_,_,_,_,.inr (.inr (.inr (.inr ⟨hnamed,by rw[p];exact O,rfl,rfl,rfl,hp⟩))),h.mono (λ_ h=>h) (λv h=>nil _ v n9 h)⟩
  have c:y.kind=4∨y.kind=5∨y.kind=6∨y.kind=7∨y.kind=8:=by unfold In at hnamed;omega
  rcases c with c|c|c|c|c
  ·refine(l7End_4 g _ N R k j o r m f d l n q y x L C A B D E w M K p s c G u t H F J O (by omega)).mono (λe w' h=>fin ?_ h)
   unfold zbR;rw[Jf c]
  ·refine(l7End_5 g _ N R k j o r m f d l n q y x L C A B D E w M K p s c G u t H F J O (by omega)).mono (λe w' h=>fin ?_ h)
   unfold zbR;rw[Je (by omega),Jf c]
  ·have W:=X m O
   have P:=(W.2.2 0 (by have:=W.1;omega)).1
   have S:=(hT.2 _ P).1;have U:=T.1.2.2.2.2.2.2;refine(l7End_6 g _ N R k j o r m f d l n q y x L C A B D E w M K p s c G u t H F J O (by omega) (zW _ _ x.san) (by have:=W.1;omega) (by rw[I]) (by rw[I] at P ⊢;exact P) ?_ (by omega)).mono (λe w' h=>fin ?_ h)
   ·have h1:=S.2.2.2.2.1
    have h2:=S.2.2.2.2.2.1;have h3:=S.2.2.2.2.2.2.1;unfold zbW In at U
    omega
   ·unfold zbR;rw[Je (by omega),Je (by omega),Jf c]
  ·refine(l7End_7 g _ N R k j o r m f d l n q y x L C A B D E w M K p s c G u t H F J O (by omega)).mono (λe w' h=>fin ?_ h)
   unfold zbR;rw[Je (by omega),Je (by omega),Je (by omega)]
  ·refine(l7End_8 g _ N R k j o r m f d l n q y x L C A B D E w M K p s c G u t H F J O (by omega)).mono (λe w' h=>fin ?_ h)
   unfold zbR;rw[Je (by omega),Je (by omega),Je (by omega)]
 ·have c:y.kind=1∨y.kind=2∨y.kind=3∨y.kind=9:=by unfold In at hnamed hk;omega
  rcases c with c|c|c|c
  ·refine(l7End_1 g _ N R k j o r f d l n q y x L C A B D E w M K p s c G u t H F).mono (λe w' h=>?_)
   exact⟨_,_,_,_,.inl ⟨c,rfl,rfl,rfl,rfl⟩,h.mono (λ_ h=>h.elim) (λv h=>nil _ v (by omega) h)⟩
  ·by_cases h30:R=30
   ·refine(l7End_2f g _ N R k j o r f d l n q y x L C A B D E w M K p s c G u t H F h30).mono (λe w' h=>?_)
    exact⟨_,_,_,_,.inr (.inr (.inl ⟨.inl c,by omega,rfl,rfl,rfl,rfl⟩)),h.mono (λ_ h=>h.elim) (λv h=>nil _ v (by omega) h)⟩
   ·refine(zoU g _ N R k j o r f d l n q y x L C A B D E w M K p s (.inl c) G u t H F (by omega)).mono (λe w' h=>?_)
    subst p;exact⟨_,_,_,_,.inr (.inr (.inr (.inl ⟨.inl c,by omega,rfl,rfl,rfl,rfl⟩))),h.mono (λ_ h=>h) (λv h=>nil _ v (by omega) h)⟩
  ·by_cases h30:R=30
   ·refine(l7End_3f g _ N R k j o r f d l n q y x L C A B D E w M K p s c G u t H F h30).mono (λe w' h=>?_)
    exact⟨_,_,_,_,.inr (.inr (.inl ⟨.inr c,by omega,rfl,rfl,rfl,rfl⟩)),h.mono (λ_ h=>h.elim) (λv h=>nil _ v (by omega) h)⟩
   ·refine(zoU g _ N R k j o r f d l n q y x L C A B D E w M K p s (.inr c) G u t H F (by omega)).mono (λe w' h=>?_)
    subst p;exact⟨_,_,_,_,.inr (.inr (.inr (.inl ⟨.inr c,by omega,rfl,rfl,rfl,rfl⟩))),h.mono (λ_ h=>h) (λv h=>nil _ v (by omega) h)⟩
  ·have Y:0<y.lgn:=by
    have:=T.1.2.2.2.1;unfold qi at this;rw[Je (by unfold zJ;omega),Jf c] at this
    omega
   have Q:zW x.sa (y.lg 0) x.san<x.san:=by
    have h1:=zcm x.sa (y.lg 0) x.san
    rcases Nat.lt_or_eq_of_le h1 with h|h
    ·exact h
    ·exact absurd (.inr ⟨c,h⟩) T.2.1
   refine(l7End_9 g _ N R k j o r f d l n q y x L C A B D E w M K p s c G u t H F (zW _ _ x.san) Y (by rw[I]) (by rw[I] at Q ⊢;exact Q) hs I Z (by omega)).mono (λe w' h=>?_)
   exact⟨_,_,_,_,.inr (.inl ⟨c,rfl,rfl,rfl,rfl⟩),h.mono (λ_ h=>h.elim) (λv h=>⟨λ_=>⟨_,rfl,Q,h⟩,λV=>absurd c V⟩)⟩
section
open Go.RowKit
def zfW (g base N R k i c h:Nat)(f a d:Option Addr)(v:Wk)(x:Off)(L C E:Nat->Value)(w:World)(e:Ending)(w':World):Prop :=
 ∃ code y A B D,e=.returned (int i64 code)/\qV (x.sa k) v (x.ld k) code y/\zF w' base (.slice f N i) (.slice a N c) (.slice d R h) N N R { x with ld:=zht x.ld k y } L C A B D E /\
  w'.heap[g]?=some (.cells #[(f,N,i),(a,N,c),(d,R,h)] 38 (0,0))/\zx w w' (λb=>(Value.slice a N c).ownBlock=some b)
section
variable {w z : World} {g gl base N R k csa cld cbk n : Nat} {asa abk : Option Addr} {v : Wk} {x : Off} {L C A B D E : Nat -> Value} {u : Value}
theorem doSt {T:Nat->Zp}(l:zF w base (asa,N,csa) (some (gl,0),N,cld) (abk,R,cbk) N N R x L C A B D E)(o:w.heap[g]?=some (.cells #[(asa,N,csa),(some (gl,0),N,cld),(abk,R,cbk)] 38 (0,0)))(h:base<=w.heap.size)(f:Below w.heap.size w z)(d:z.ownsRow w.heap.size 220 4 u n (zy T n))(q:qV (x.sa k) v (x.ld k) 0 { x.ld k with stn:=n,st:=T }) :
  zfW g base N R k csa cld cbk asa (some (gl,0)) abk v x L C E w (.returned ()) (z.setCell (gl,k*3) u):=by
 obtain⟨cs,c⟩:=zA l.ld.row gl rfl;have j:g≠gl:=λe=>by subst e;rw[o] at c;simp at c
 have m:=(zx.refl z (λb=>(Value.slice (some ⟨gl,0,none⟩) N cld).ownBlock=some b)).set (a:=⟨gl,k*3+0,none⟩) rfl u
 exact⟨0,_,_,_,_,rfl,q,(l.below f).putSt (λi p b e=>((l.ld.st i p).lt b e).2) d h,m.blk (zb o f) (λe=>j (by simpa [Value.ownBlock] using e.symm)),(zx.of_below f).trans m⟩
theorem doRo {T:Nat->qN}(l:zF w base (asa,N,csa) (some (gl,0),N,cld) (abk,R,cbk) N N R x L C A B D E)(o:w.heap[g]?=some (.cells #[(asa,N,csa),(some (gl,0),N,cld),(abk,R,cbk)] 38 (0,0)))(h:base<=w.heap.size)(f:Below w.heap.size w z)(d:z.ownsRow w.heap.size 228 4 u n (zw T n))(q:qV (x.sa k) v (x.ld k) 0 { x.ld k with ron:=n,ro:=T }) :
  zfW g base N R k csa cld cbk asa (some (gl,0)) abk v x L C E w (.returned ()) (z.setCell (gl,k*3+1) u):=by
 obtain⟨cs,c⟩:=zA l.ld.row gl rfl;have j:g≠gl:=λe=>by subst e;rw[o] at c;simp at c
 have m:=(zx.refl z (λb=>(Value.slice (some ⟨gl,0,none⟩) N cld).ownBlock=some b)).set (a:=⟨gl,k*3+1,none⟩) rfl u
 exact⟨0,_,_,_,_,rfl,q,(l.below f).putRo (λi p b e=>((l.ld.ro i p).lt b e).2) d h,m.blk (zb o f) (λe=>j (by simpa [Value.ownBlock] using e.symm)),(zx.of_below f).trans m⟩
theorem doSe {T:Nat->Qe}(l:zF w base (asa,N,csa) (some (gl,0),N,cld) (abk,R,cbk) N N R x L C A B D E)(o:w.heap[g]?=some (.cells #[(asa,N,csa),(some (gl,0),N,cld),(abk,R,cbk)] 38 (0,0)))(h:base<=w.heap.size)(f:Below w.heap.size w z)(d:z.ownsRow w.heap.size 234 2 u n (zB T n))(q:qV (x.sa k) v (x.ld k) 0 { x.ld k with sen:=n,se:=T }) :
  zfW g base N R k csa cld cbk asa (some (gl,0)) abk v x L C E w (.returned ()) (z.setCell (gl,k*3+2) u):=by
 obtain⟨cs,c⟩:=zA l.ld.row gl rfl;have j:g≠gl:=λe=>by subst e;rw[o] at c;simp at c
 have m:=(zx.refl z (λb=>(Value.slice (some ⟨gl,0,none⟩) N cld).ownBlock=some b)).set (a:=⟨gl,k*3+2,none⟩) rfl u
 exact⟨0,_,_,_,_,rfl,q,(l.below f).putSe (λi p b e=>((l.ld.se i p).lt b e).2) d h,m.blk (zb o f) (λe=>j (by simpa [Value.ownBlock] using e.symm)),(zx.of_below f).trans m⟩
theorem doNo {b:Option Addr}{a:Int}(d:zF w base (.slice asa N csa) (.slice b N cld) (.slice abk R cbk) N N R x L C A B D E)(e:w.heap[g]?=some (.cells #[.slice asa N csa,.slice b N cld,.slice abk R cbk] 38 (0,0)))(c:Below w.heap.size w z)(f:qV (x.sa k) v (x.ld k) a (x.ld k)) :
  zfW g base N R k csa cld cbk asa b abk v x L C E w (.returned a) z :=
 ⟨a,_,_,_,_,rfl,f,by rw[setL_same];exact d.below c,zb e c,zx.of_below c⟩
end
end
def zaY (r k:Nat):Nat:=if k<=r then k else k - 1
theorem zjh (bo:Option Addr)(n c r:Nat)(S:Nat->Zp)(x:Int)(w:World)(hn:n<=60)(hr:r<n)(J:Qc S r=x)(H:∀ j,j<n->j≠r->Qc S j≠x)(K:qw w bo n S) :
  Calls prog 165 #[(bo,n,c),x] w λe w'=>(∃ v,e=.returned v/\w'.ownsRow w.heap.size 220 4 v (n - 1) (zy (Zx S r) (n - 1)))/\Below w.heap.size w w':=by
 obtain⟨T,U,C,D,E⟩:=info_parts Tryz.infoStay;have N:=hI K;have G:=hI J;have M:=hI H;clear K J H;go_enter func165,ntmps165;go_wp2;go_loopw [5,7,10] (λv _ i wr=>∃ k,k<=n/\i=int i64 k/\wr.ownsRow w.heap.size 220 4 v (zaY r k) (zy (Zx S r) (zaY r k))/\Below w.heap.size w wr) (λ_ _ i _=>n - (intOf i).toNat)
 case atStart=>exact⟨0,Jq _,rfl,⟨rfl,.inl ⟨rfl,rfl⟩⟩,bZ⟩
 case round =>
  obtain⟨k,hk,rfl,d,a⟩:=hrel
  by_cases hlt:k<n
  ·obtain⟨b,off,rfl,y,h1,h2,h3⟩:=N k hlt
   have o:=Ja w _ y;have c0:=(a.cell o).trans y;have c1:=(a.cell (p:=⟨b,_+1,_⟩) o).trans h1;have c2:=(a.cell (p:=⟨b,_+2,_⟩) o).trans h2;have c3:=(a.cell (p:=⟨b,_+3,_⟩) o).trans h3;clear y h1 h2 h3
   by_cases he:k=r
   ·have O:((S k).who == x)=true:=by rw[he];simpa [Qc] using G.out
    have P:((S k).who != x)=false:=by rw[he];simpa [Qc] using G.out
    have l:Hid (zaY r (k+1)=zaY r k):=by
     have m:zaY r _=k+1 - 1:=Je (by omega)
     have f:zaY r k=k:=Jf (by omega)
     show _=_
     omega
    clear he;go_wp2;go_roundw
    case rel=>exact⟨k+1,by omega,by go_num,by rw[l.out];exact zo (zk bZ _) d,zk a _⟩
    case measure=>simp[intOf];omega
   ·have g:=M k hlt he
    have O:((S k).who == x)=false:=by simpa [Qc] using g
    have P:((S k).who != x)=true:=by simpa [Qc] using g
    have l:Hid (zaY r (k+1)=zaY r k+1/\Zx S r (zaY r k)=S k/\zaY r k<=60):=by
     by_cases c:k<=r
     ·have m:zaY r _=k+1:=Jf (by omega)
      have f:zaY r k=k:=Jf c;have s:Zx S r k=S k:=Jf (by omega)
      rw[m,f,s];exact⟨rfl,rfl,by omega⟩
     ·have m:zaY r _=k+1 - 1:=Je (by omega)
      have f:zaY r k=_:=Je c;have s:Zx S r _=S (k - 1+1):=Je (by omega)
      rw[m,f,s];exact⟨by omega,by rw[show k - 1+1=k by omega],by omega⟩
    clear he g;have R:=a.size;have z:=l.2.2;generalize hq:zaY r k=q at d z;have F:=hI hq;clear hq;have L:Hid (∀ t,(some (wr.heap.size+1,0):Option Addr)=some t->∀ j u,[Value.int .i64 (S k).who,int i64 (S k).ln,int i64 (S k).len,int i64 (S k).hei][j]?=some u->((wr.alloc (.cells #[(S k).who,(S k).ln,(S k).len,(S k).hei] 220)).alloc (.cells #[(S k).who,(S k).ln,(S k).len,(S k).hei] 220)).cell? (t.add j)=some u):=by
     intro t e
     cases e
     exact Jo (by simpa using Jb (wr.alloc _) _)
    go_wp2_with (first|(at_builtin;refine zv _ rfl _ _ 141 rfl _ 220 T _ 4 32 underlying141 U C D E rfl (by decide) _ q _ (by rfl) ((d.alloc _).alloc _) _ 1 1 _ rfl (λh=>(by cases h)) rfl L (by intro u I;simp at I;rcases I with rfl|rfl|rfl|rfl <;> rfl) (by unfold maxLen;omega) (by omega) (by simp;omega) ?_;intro v' w3 B A))
    go_roundw
    case rel =>
     refine⟨k+1,by omega,by go_num,?_,(zk (zk a _) _).grown A (by simp;omega) (λj Q=>(d.lt j Q).1)⟩
     obtain⟨m,f,_⟩:=l;rw[m,F.out,zaw];rw[F.out] at f;rw[f];exact B
    case measure=>simp[intOf];omega
  ·obtain rfl:k=n:=by omega
   have l:Hid (zaY r k=_):=Je (by omega)
   rw[l.out] at d;go_wp2;go_ret;exact⟨⟨_,rfl,d⟩,a⟩
theorem l7Do_a (g base N R k m z T:Nat)(Q P O:Option Addr)(leg who:Int)(p:Qh)(x:Off)(L C A B D E:Nat->Value)(w:World)(hq:w.heap[g]?=some (.cells #[.slice Q N m,.slice P N z,.slice O R T] 38 (0,0)))(i:zF w base (.slice Q N m) (.slice P N z) (.slice O R T) N N R x L C A B D E)(hN:N<=1048576)(hk:zW x.sa leg N=k)(c:k<N)(b4:qm (x.sa k) (x.ld k))(r:Nat)(hr:r<(x.ld k).stn)(hx:Qc (x.ld k).st r=who)(K:∀ j,j<(x.ld k).stn->j≠r->Qc (x.ld k).st j≠who) :
  Calls prog 92 #[.pointer (some ⟨g,0,none⟩),.agg #[int i64 leg,int i64 0,.bool true,int i64 who,int i64 p.pe,int i64 p.len,int i64 p.hei,int i64 p.cl,.bool p.all,int i64 p.be]] w λe w'=>zfW g base N R k m z T Q P O ⟨leg,0,true,who,p⟩ x L C E w e w':=by
 obtain⟨gl,rfl,d5,a1⟩:=qh i.ld.row (by omega)
 have HO:=hI i;have HK:=hI hk;have M:=hI b4;have b7:Hid (base<=w.heap.size):=by show base<=w.heap.size;omega
 have HQ:=hI hq;have H:=hI i.sa.at;obtain⟨cs,b3⟩:=zA i.ld.row gl rfl;obtain⟨S,U,eA,m1,m2,m3⟩:=zp (i.ld.st k c);obtain⟨a6,b1,eB,m4,m5,m6⟩:=zp (i.ld.ro k c);obtain⟨a7,b2,eD,m7,m8,m9⟩:=zp (i.ld.se k c);have a5:Hid (w.ownsRow base 220 4 (.slice S (x.ld k).stn U) (x.ld k).stn (zy (x.ld k).st (x.ld k).stn)):=by show w.ownsRow _ _ _ _ _ _;rw[← eA];exact i.ld.st k c
 have d2:Hid (w.ownsRow base 228 4 (.slice a6 (x.ld k).ron b1) (x.ld k).ron (zw (x.ld k).ro (x.ld k).ron)):=by show w.ownsRow _ _ _ _ _ _;rw[← eB];exact i.ld.ro k c
 have d3:Hid (w.ownsRow base 234 2 (.slice a7 (x.ld k).sen b2) (x.ld k).sen (zB (x.ld k).se (x.ld k).sen)):=by show w.ownsRow _ _ _ _ _ _;rw[← eD];exact i.ld.se k c
 have a2:Hid (w.cell? ⟨gl,k*3,none⟩=some (.slice S (x.ld k).stn U)):=by
  have h:=zs i.ld.row (k*3+0) (by omega) rfl
  rw[zC 3 _ k 0 (by decide)] at h
  rw[← eA];exact h
 have a3:Hid (w.cell? ⟨gl,k*3+1,none⟩=some (.slice a6 (x.ld k).ron b1)):=by
  have h:=zs i.ld.row (k*3+1) (by omega) rfl
  rw[zC 3 _ k 1 (by decide)] at h
  rw[← eB];exact h
 have a4:Hid (w.cell? ⟨gl,k*3+2,none⟩=some (.slice a7 (x.ld k).sen b2)):=by
  have h:=zs i.ld.row (k*3+2) (by omega) rfl
  rw[zC 3 _ k 2 (by decide)] at h
  rw[← eD];exact h
 have d0:Hid (_/\_/\_):=⟨m3,m6,m9⟩;obtain⟨s,F⟩:∃ s,s=x.sa k:=⟨_,rfl⟩;obtain⟨l,a0⟩:∃ l,l=x.ld k:=⟨_,rfl⟩;rw[← a0] at a5 d2 d3 a2 a3 a4 d0 M;rw[← F] at M;have d7:=hI F;have t:=hI a0;have c9:=hI b3;obtain⟨d,so,la,lc,ca,cc,rfl,f0,f1,f2,f3,f4,f5,f6,f7,Y,V,b6,b5⟩:=H.out k c;rw[← F] at f0 f1 f2 f3 f4 f5 f6 f7 Y V b6 b5;have d6:Hid (_/\_):=⟨Y,V⟩;have b9:Hid (∀ W,Below _ w W->_/\_/\_/\_/\_/\_/\_/\_):=λW J=>by
  have b:=Ja w _ f0;exact⟨(J.cell b).trans f0,(J.cell (p:=⟨d,_+1,_⟩) b).trans f1,(J.cell (p:=⟨d,_+2,_⟩) b).trans f2,(J.cell (p:=⟨d,_+3,_⟩) b).trans f3,(J.cell (p:=⟨d,_+4,_⟩) b).trans f4,(J.cell (p:=⟨d,_+5,_⟩) b).trans f5,(J.cell (p:=⟨d,_+6,_⟩) b).trans f6,(J.cell (p:=⟨d,_+7,_⟩) b).trans f7⟩
 clear f0 f1 f2 f3 f4 f5 f6 f7 Y V b6 b5 F a0 b3 eA eB eD m1 m2 m3 m4 m5 m6 m7 m8 m9 b4 hk d5;have i1:(0:Int)<=(k:Int):=by omega
 have i2:(k:Int)<(N:Int):=by omega
 have f:Below _ w (w.alloc (.cells #[int i64 leg,int i64 0,.bool true,int i64 who,int i64 p.pe,int i64 p.len,int i64 p.hei,int i64 p.cl,.bool p.all,int i64 p.be] 159)):=zk bZ _;have b0:=zoP f;go_enter func92,ntmps92;go_upto_region 1 with fail;generalize (w.alloc _)=W at f b0 ⊢;have z0:∀ G:zn W,G.val.cell? _=some (.slice _ N m):=λG=>za (zb HQ.out (ze f G.bel)) 0 _ rfl
 have z1:∀ G:zn W,G.val.cell? _=some (.int _ leg):=λG=>za (zb b0 G.bel) 0 _ rfl
 refine zh (by kernel_rfl) (by kernel_rfl) ?_
 repeat(first|go_big_quiet_skip|(go_big_quiet_want;go_big_quiet_op;first|go_big_quiet_on|(apply Jg;refine⟨λG=>?_,?_⟩;(focus(first|(go_at_call 161;refine zf (v:=int i64 (k:Int)) ((Q9 _ N m _ leg _ hN (H.out.below (ze f G.bel))).mono ?_);rintro e w2 ⟨he,d4⟩;refine⟨?_,d4⟩;rw[HK.out] at he;rcases he with⟨_,rfl⟩|⟨h,_⟩;rfl;omega)));go_big_quiet_on)))
 refine Jl ?_;rintro _ ⟨G,rfl⟩;clear z0 z1;have q:=ze f G.bel;have I:=zb b0 G.bel;obtain⟨c0,c1,c2,c3,c4,c5,c6,c7⟩:=b9.out _ q;have y0:=za (zb HQ.out q) 0 _ rfl;have y1:∀ o,(G.val.alloc o).cell? _=some (.slice _ N z):=λo=>za (zb HQ.out (zk q o)) 1 _ rfl
 have y4:∀ o,(G.val.alloc o).cell? _=some (.int _ _):=λo=>za (zd I o) 4 _ rfl
 have y5:∀ o,(G.val.alloc o).cell? _=some (.int _ _):=λo=>za (zd I o) 5 _ rfl
 have y6:∀ o,(G.val.alloc o).cell? _=some (.int _ _):=λo=>za (zd I o) 6 _ rfl
 have y7:∀ o,(G.val.alloc o).cell? _=some (.int _ _):=λo=>za (zd I o) 7 _ rfl
 have y8:∀ o,(G.val.alloc o).cell? _=some (.bool _):=λo=>za (zd I o) 8 _ rfl
 have y9:∀ o,(G.val.alloc o).cell? _=some (.int _ _):=λo=>za (zd I o) 9 _ rfl
 go_upto_region 8 with fail;have a:Below _ w ((G.val.alloc (.cells #[int i64 s.id,.string s.fr,.string s.dst,int i64 s.dep,int i64 s.arr,.slice la s.la.n lc,.slice ca s.ca.n cc,int i64 s.most] 140)).alloc (.cells #[int i64 p.pe,int i64 p.len,int i64 p.hei,int i64 p.cl,.bool p.all,int i64 p.be] 45)):=zk (zk q _) _;have y:=zd (zd I (.cells #[int i64 s.id,.string s.fr,.string s.dst,int i64 s.dep,int i64 s.arr,.slice la s.la.n lc,.slice ca s.ca.n cc,int i64 s.most] 140)) (.cells #[int i64 p.pe,int i64 p.len,int i64 p.hei,int i64 p.cl,.bool p.all,int i64 p.be] 45);have a9:=zd (Jb G.val (.cells #[int i64 s.id,.string s.fr,.string s.dst,int i64 s.dep,int i64 s.arr,.slice la s.la.n lc,.slice ca s.ca.n cc,int i64 s.most] 140)) (.cells #[int i64 p.pe,int i64 p.len,int i64 p.hei,int i64 p.cl,.bool p.all,int i64 p.be] 45);have a8:=zfT G.val (.cells #[int i64 s.id,.string s.fr,.string s.dst,int i64 s.dep,int i64 s.arr,.slice la s.la.n lc,.slice ca s.ca.n cc,int i64 s.most] 140) (.cells #[int i64 p.pe,int i64 p.len,int i64 p.hei,int i64 p.cl,.bool p.all,int i64 p.be] 45);generalize hx0:(G.val.alloc _).alloc _=X at a y a9 a8 ⊢;generalize hsb:G.val.heap.size=sb at a9 a8 ⊢;clear c0 c1 c2 c3 c4 c5 c6 c7 y0 y1 y4 y5 y6 y7 y8 y9 I q f b0 hx0 hsb G W;have w1:=za y 1 _ rfl;have w2:=za y 2 _ rfl;have w3:=za y 3 _ rfl;have L0:=(a.cell a1).trans a2.out;have L1:=(a.cell a1).trans a3.out;have L2:=(a.cell a1).trans a4.out;have bG:=zb c9.out a;have HR:Hid (r<l.stn/\Qc l.st r=who/\∀ j,j<l.stn->j≠r->Qc l.st j≠who):=by rw[t.out];exact⟨hr,hx,K⟩
 clear hr hx K;have b8:Hid (∀ Z,_->Calls _ 165 _ Z λe w5=>(∃ av cv,e=.returned (.slice av _ cv)/\Hid (w5.ownsRow _ 220 4 (.slice av _ cv) _ _))/\Below _ X w5):=λZ hZ=>by
  have hd:=(QO _ _ _).1 M.out.1;refine(zjh S _ U r _ who Z hd.2.1 HR.out.1 HR.out.2.1 HR.out.2.2 ((zbK a5.out).below (ze a hZ))).mono ?_;rintro e w5 ⟨⟨u,rfl,o1⟩,n⟩;obtain⟨av,cv,rfl,_⟩:=zp o1;exact⟨⟨av,cv,rfl,zu o1 hZ.size⟩,ze hZ n⟩
 go_upto_region 9 with fail;clear w1 w2 L1 L2;go_region_law (first
  | (go_simp;go_at_call 165;(with_reducible refine Jm (b8.out _ ?_) ?_);(focus(repeat(first | exact bZ | refine Jh ?_ | refine zk ?_ _)));rintro e w5 ⟨⟨av,cv,rfl,d1⟩,n⟩;have q0:=(n.cell (zM bG)).trans L0;have q1:=zg (zb bG n) (k*3);dsimp only))
 all_goals
  have HF:Hid _:=doSt (v:=⟨leg,0,_,who,p⟩) HO.out HQ.out b7.out (ze a n) (zu d1.out a.size) (by rw[t.out];exact .noStay r rfl rfl (by rw[← t.out];exact HR.out.1) (by rw[← t.out];exact HR.out.2.1))
  go_wp2;go_ret;exact HF.out
end Go.Proofs.YtmdnjgihooflfaaGreatDoor
