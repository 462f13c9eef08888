/-
  OWN TEXT: DrawLi, KitFs, DrawOl, KitOp, KitOsi.
-/
import Derived.Test.YtgmdnkngnhkgbaaGreatB14
namespace Go.Proofs.YtgmdnkngnhkgbaaGreat
open Go.RowKit
open Go.Value (int)
open Go.IntKind (i64)
set_option maxHeartbeats 64000000
set_option maxRecDepth 100000
def zfM (F:Nat->Int)(m:Nat)(x:Int)(i:Nat):Int:=if i=m then x else F i
theorem ZL (F:Nat->Int)(m:Nat)(x:Int):zw (zfM F m x) (m+1)=zw F m++[int i64 x]:=by
 unfold zw;rw[List.range_succ,List.map_append]
 congr 1
 ·refine List.map_congr_left fun j a=>?_
  have b:j<m:=by simpa using a
  unfold zfM;rw[if_neg (by omega)]
 ·unfold zfM
  simp
theorem CurIs.far {w w':World}{i n c a:Nat}{g:Option Addr}{T:Nat->Prop}(h:CurIs w i g n c a)(l:zA w w' T)(q:¬ T i)(r:∀ k,k<n->∀ b off,g=some ⟨b,off,none⟩->¬ T b):CurIs w' i g n c a:=by
 obtain⟨⟨p,s,v,t⟩,u⟩:=h;refine⟨⟨p,s,v,l.blk t q⟩,fun k f=>?_⟩
 obtain⟨b,off,x,e,j,d,m,o⟩:=u k f;exact⟨b,off,x,e,j,l.cellAt d (r k f b off e),m,o⟩
theorem zA.over {w u c:World}{S T:Nat->Prop}(h:zA w u S)(k:zA u c T)(d:∀ b,T b->w.heap.size<=b):zA w c S :=
 ⟨k.os.trans h.os,k.tape.trans h.tape,k.output.trans h.output,Nat.le_trans h.size k.size,fun i a e=>(k.block i (Nat.lt_of_lt_of_le a h.size) (fun t=>by have:=d i t;omega)).trans (h.block i a e)⟩
theorem zdG (p:Nat)(ao:Option Addr)(n c a:Nat)(c7:Option Addr)(N cs:Nat)(S:Nat->Sail)(w:World)(ha:a<=700000000000000000)(hN:N<=1000)(h:CurIs w p ao n c a)(hz:∀ u,zA w u (fun b=>b=p)->SailsAt u c7 N S) :
  Calls Tryz.prog 67 #[.pointer (some ⟨p,0,none⟩),.slice c7 N cs] w fun e w'=>(∃ v k F,k<=4/\e=.returned v/\w'.ownsRow w.heap.size 3 1 v k (zw F k))/\CurIs w' p ao n c (a+60)/\zA w w' (fun b=>b=p):=by
 obtain⟨n0,ni,M,O,P⟩:=info_parts Tryz.infoInt;have HZ:=hI hz;have f4:=h.lt;have HL:=hI h.code_lt;clear hz;go_enter Tryz.func67,Tryz.ntmps67;go_wp2_with fail;refine(pick_any p ao n c a 3 w (by omega) (by decide) (by decide) h).mono ?_
 rintro e w1 ⟨⟨r0,rfl,f7⟩,d0,d8⟩;have c0:=hI d0;have c4:=hI d8;have f8:IntKind.i64.wrap (1+(r0:Int))=((r0+1:Nat):Int):=by rw[IntKind.wrap_i64];omega
 clear d0 d8 h;go_wp2;go_loopw [5,6,7,8] (fun v nn _ _ wr=>∃ (k q Q:Nat) (F:Nat->Int),k+q<=3/\nn=int i64 q/\Q+10*q<=a+40/\Hid (wr.ownsRow w.heap.size 3 1 v k (zw F k))/\Hid (CurIs wr p ao n c Q)/\Hid (zA w wr (fun b=>b=p))) (fun _ nn _ _ _=>(intOf nn).toNat)
 case atStart=>exact⟨0,r0+1,a+2,fun _=>0,by omega,rfl,by omega,⟨rfl,.inl ⟨rfl,rfl⟩⟩,c0.out,c4.out⟩
 case round =>
  clear c0 c4;obtain⟨k,q,Q,F,f5,rfl,f2,o,HC,HK⟩:=hrel;obtain⟨av,cv,rfl,e8,e9,c8⟩:=zr o.out;have a5:=hI c8;clear e8 e9 c8
  by_cases hq:0<q/\0<N
  ·obtain⟨f6,f1⟩:=hq
   have d1:decide (0<(q:Int))=true:=decide_eq_true (by omega)
   have d2:decide (0<(N:Int))=true:=decide_eq_true (by omega)
   have i0:(0:Int)<(q:Int):=by omega
   have i1:(0:Int)<(N:Int):=by omega
   go_wp2_with fail;refine(pick_any p ao n c Q N wr (by omega) (by omega) (by omega) HC.out).mono ?_
   rintro e w2 ⟨⟨r,rfl,hr⟩,C,m⟩;have J:=hI C;have y:=hI (HK.out.trans m);have f:Hid (w2.ownsRow w.heap.size 3 1 (.slice av k cv) k (zw F k)):=m.own o.out (fun g L e=>by have e:g=p:=e;have:=(o.out.lt g L).1;omega)
   clear C m HC HK o;obtain⟨f0,so,la,lc,ca,cc,rfl,s0,s1,s2,s3,s4,s5,s6,s7,_⟩:=HZ.out w2 y.out r hr;obtain⟨s,e3⟩:∃ s,s=S r:=⟨_,rfl⟩;rw[← e3] at s0 s1 s2 s3 s4 s5 s6 s7;clear e3;have j1:(0:Int)<=(r:Int):=by omega
   have j2:(r:Int)<(N:Int):=by omega
   go_upto_region 6 with fail;have a1:Below w2.heap.size w2 (w2.alloc (.cells #[int i64 s.id,.string s.fr,.string s.dst,int i64 s.dep,int i64 s.arr,.slice la s.la.n lc,.slice ca s.ca.n cc,int i64 s.most] 33)):=zl bZ _;have bX:=heap_alloc_new w2 (.cells #[int i64 s.id,.string s.fr,.string s.dst,int i64 s.dep,int i64 s.arr,.slice la s.la.n lc,.slice ca s.ca.n cc,int i64 s.most] 33);have a9:=hI (y.out.trans (zA.of_below a1));have c3:=hI (J.out.below a1);have b6:=hI (zp a1 f.out);generalize (w2.alloc (.cells #[int i64 s.id,.string s.fr,.string s.dst,int i64 s.dep,int i64 s.arr,.slice la s.la.n lc,.slice ca s.ca.n cc,int i64 s.most] 33))=X at a1 bX a9 c3 b6 ⊢;generalize w2.heap.size=sb at bX ⊢;clear s0 s1 s2 s3 s4 s5 s6 s7 a1 J y f;have b0:Hid (∀ z,Below X.heap.size X z->zX z av k F):=fun z hb=>own_ints (zp hb b6.out)
   have KS:Hid (∀ z,Below X.heap.size X z->z.cell? ⟨sb,0,none⟩=some (int i64 s.id)/\True):=fun z hb=>⟨za (zb bX hb) 0 _ rfl,trivial⟩
   refine qt 7 8 (fun w'=>w'.cell? ⟨sb,0,none⟩=some (int i64 s.id)/\True) rfl (by kernel_rfl) (KS.out X.drew (Below.drew bZ)) (fun hS=>?_)
   simp only[List.replicate_succ,List.replicate_zero]
   (refine tkL 1 (v:=?_) rfl (by kernel_rfl) (fun _ _ _ h=>h) rfl (by assumption) ?_ ?_;rotate_left;(focus(intro w' h;(try dsimp only at h);go_simp;try with_reducible rfl));simp only[Act.put,sB,sZ,sS])
   (refine tkL 3 (v:=?_) rfl (by kernel_rfl) (fun _ _ _ h=>h) rfl (by assumption) ?_ ?_;rotate_left;(focus(intro w' h;(try dsimp only at h);go_simp;try with_reducible rfl));simp only[Act.put,sB,sZ,sS])
   (refine tkL 4 (v:=?_) rfl (by kernel_rfl) (fun _ _ _ h=>h) rfl (by assumption) ?_ ?_;rotate_left;(focus(intro w' h;(try dsimp only at h);go_simp;try with_reducible rfl));simp only[Act.put,sB,sZ,sS])
   refine zj (rs:=[0,5]) (by kernel_rfl) (by simp) ?_
   refine zd.consL rfl (fun K l=>?_) (zd.consL rfl (fun K l=>?_) zd.nil)
   focus
    go_simp;refine l.out _ _ (KS.out _ (by repeat(first|with_reducible exact d.out|with_reducible exact bZ|with_reducible refine Below.drew ?_|with_reducible refine zl ?_ _))) (fun hS=>?_)
    clear l K;simp only[sZ];refine zj (rs:=[2,5]) (by kernel_rfl) (by simp) ?_
    refine zd.consL rfl (fun K l=>?_) (zd.consL rfl (fun K l=>?_) zd.nil)
    focus
     refine zD (by rfl) (.tmp 28) (.tmp 29) 37 (by rfl) 3 n0 (int i64 0) 1 8 Tryz.underlying37 ni M O P rfl (by decide) X.heap.size _ (by rfl) (by first|exact Nat.le_refl _|omega|(simp;done)|(simp;omega)) (by repeat(first|((with_reducible refine qI _ _ _ ?_);(first|with_reducible rfl|(simp;done)))|with_reducible refine zE ?_|with_reducible refine zc ?_ _)) av k cv (zw F k) (by rfl) a5.out (by rw[zW,Nat.mul_one]) (qE (b0.out _ (by repeat(first|exact bZ|refine Below.drew ?_|refine zl ?_ _)))) (intList_one _ _) (by unfold maxLen;omega) (by omega) ?_;intro p1 q1 u1 G I B;clear B;have d:Hid (Below X.heap.size X u1):=(by show Below _ _ _;refine zf ?_ (zm G);exact(by repeat(first|exact bZ|refine Below.drew ?_|refine zl ?_ _)));refine l.out _ _ (KS.out _ d.out) (fun hS=>?_)
     clear l K;simp only[Act.put,sB,sZ,sS];refine zj (rs:=[5]) (by kernel_rfl) (by simp) ?_
     refine zd.consL rfl (fun K l=>?_) zd.nil
     focus
      go_simp;refine l.out _ _ (KS.out _ (by repeat(first|with_reducible exact d.out|with_reducible exact bZ|with_reducible refine Below.drew ?_|with_reducible refine zl ?_ _))) (fun hS=>?_)
      clear l K;simp only[sZ,sS]
    rotate_left 1
    focus
     go_simp;refine l.out _ _ (KS.out _ (by repeat(first|with_reducible exact d.out|with_reducible exact bZ|with_reducible refine Below.drew ?_|with_reducible refine zl ?_ _))) (fun hS=>?_)
     clear l K;simp only[sZ,sS];refine zj (rs:=[2]) (by kernel_rfl) (by simp) ?_
     refine zd.consL rfl (fun K l=>?_) zd.nil
     focus
      refine zD (by rfl) (.tmp 28) (.tmp 29) 37 (by rfl) 3 n0 (int i64 0) 1 8 Tryz.underlying37 ni M O P rfl (by decide) X.heap.size _ (by rfl) (by first|exact Nat.le_refl _|omega|(simp;done)|(simp;omega)) (by repeat(first|((with_reducible refine qI _ _ _ ?_);(first|with_reducible rfl|(simp;done)))|with_reducible refine zE ?_|with_reducible refine zc ?_ _)) av k cv (zw F k) (by rfl) a5.out (by rw[zW,Nat.mul_one]) (qE (b0.out _ (by repeat(first|exact bZ|refine Below.drew ?_|refine zl ?_ _)))) (intList_one _ _) (by unfold maxLen;omega) (by omega) ?_;intro p1 q1 u1 G I B;clear B;have d:Hid (Below X.heap.size X u1):=(by show Below _ _ _;refine zf ?_ (zm G);exact(by repeat(first|exact bZ|refine Below.drew ?_|refine zl ?_ _)));refine l.out _ _ (KS.out _ d.out) (fun hS=>?_)
      clear l K;simp only[Act.put,sB,sZ,sS]
   rotate_left 2
   focus
    go_simp;refine l.out _ _ (KS.out _ (by repeat(first|with_reducible exact d.out|with_reducible exact bZ|with_reducible refine Below.drew ?_|with_reducible refine zl ?_ _))) (fun hS=>?_)
    clear l K;simp only[sZ,sS];refine zj (rs:=[0]) (by kernel_rfl) (by simp) ?_
    refine zd.consL rfl (fun K l=>?_) zd.nil
    focus
     go_simp;refine l.out _ _ (KS.out _ (by repeat(first|with_reducible exact d.out|with_reducible exact bZ|with_reducible refine Below.drew ?_|with_reducible refine zl ?_ _))) (fun hS=>?_)
     clear l K;simp only[sZ];refine zj (rs:=[2]) (by kernel_rfl) (by simp) ?_
     refine zd.consL rfl (fun K l=>?_) zd.nil
     focus
      refine zD (by rfl) (.tmp 28) (.tmp 29) 37 (by rfl) 3 n0 (int i64 0) 1 8 Tryz.underlying37 ni M O P rfl (by decide) X.heap.size _ (by rfl) (by first|exact Nat.le_refl _|omega|(simp;done)|(simp;omega)) (by repeat(first|((with_reducible refine qI _ _ _ ?_);(first|with_reducible rfl|(simp;done)))|with_reducible refine zE ?_|with_reducible refine zc ?_ _)) av k cv (zw F k) (by rfl) a5.out (by rw[zW,Nat.mul_one]) (qE (b0.out _ (by repeat(first|exact bZ|refine Below.drew ?_|refine zl ?_ _)))) (intList_one _ _) (by unfold maxLen;omega) (by omega) ?_;intro p1 q1 u1 G I B;clear B;have d:Hid (Below X.heap.size X u1):=(by show Below _ _ _;refine zf ?_ (zm G);exact(by repeat(first|exact bZ|refine Below.drew ?_|refine zl ?_ _)));refine l.out _ _ (KS.out _ d.out) (fun hS=>?_)
      clear l K;simp only[Act.put,sB,sZ,sS]
   all_goals
    refine zj (rs:=[6]) (by kernel_rfl) (by simp) ?_
    refine zd.consL rfl (fun K l=>?_) zd.nil
    refine step_append_lies _ (by rfl) (.tmp 30) (.tmp 33) 37 (by rfl) X.heap.size 3 n0 (int i64 0) 1 8 Tryz.underlying37 ni M O P rfl (by decide) _ k (zw F k) (by rfl) (by first|exact I|exact I.alloc _|exact zp (zl bZ _) I) _ 1 1 [int i64 s.id] (by rfl) (by rfl) (by refine World.news_of_block (cs:=#[int i64 s.id]) (t:=3) (fr:=(0,0)) ?_;exact(by repeat(first|((with_reducible refine qI _ _ _ ?_);(first|with_reducible rfl|(simp;done)))|with_reducible refine zE ?_|with_reducible refine zc ?_ _|with_reducible refine zb ?_ (zm G)))) (by intro u hu;simp at hu;subst hu;rfl) (by decide) (by unfold maxLen;omega) (by omega) (by first|exact d.out.size|(have:=d.out.size;simp;omega)) _ rfl ?_;intro g2 U u2 e0 d7 c9 d9;refine(fun (R:Hid (Below X.heap.size X u2))=>?_) (Below.grown ?_ d7 ?_ (fun j hj=>(I.lt j hj).1));rotate_left;(focus(repeat(first|with_reducible exact d.out|exact bZ|refine Below.drew ?_|refine zl ?_ _)));(focus(first|exact d.out.size|(have:=d.out.size;simp;omega)));refine l.out _ _ (KS.out _ R.out) (fun hS=>?_)
    clear l K;simp only[Act.put,sB,sZ,sS];refine zj (rs:=[7]) (by kernel_rfl) (by simp) ?_
    refine zd.lastL rfl (fun K l=>?_)
    go_simp;refine l.out _ _ ?_;clear l K;refine qd (by kernel_rfl) ?_ _
    have f:Hid (u2.ownsRow X.heap.size 3 1 (.slice (some ⟨g2,0,none⟩) (k+1) U) (k+1) (zw (zfM F k s.id) (k+1))):=by
     show u2.ownsRow _ _ _ _ _ _
     rw[ZL];exact e0
    clear hS G I d7 c9 d9 e0 d;have a8:=hI (a9.out.trans (zA.of_below R.out));have c2:=hI (c3.out.below R.out);have c6:=hI (zp R.out b6.out);have e5:w.heap.size<=X.heap.size:=a9.out.size;go_wp2_with fail;refine(zcF (some ⟨f0,so,none⟩) (some ⟨g2,0,none⟩) N (k+1) cs U S (zfM F k s.id) _ (by omega) (by omega) (HZ.out _ a8.out) (own_ints f.out)).mono ?_
    rintro e u3 ⟨⟨tf,rfl,_⟩,V⟩;have a2:=hI (zp V (zC f.out e5));have b7:=hI (zp V c6.out);have a7:=hI (a8.out.trans (zA.of_below V));have a6:=hI (c2.out.below V);have f9:IntKind.i64.wrap ((q:Int) - 1)=((q - 1:Nat):Int):=by rw[IntKind.wrap_i64];omega
    clear f c6 a8 c2 V R
    cases tf with
    | true =>
     go_wp2;go_roundw
     case rel=>exact⟨k+1,q - 1,Q+2,zfM F k s.id,by omega,rfl,by omega,a2.out,a6.out,a7.out⟩
     case measure=>simp[intOf];omega
    | false =>
     go_wp2_with fail;refine(one_any p ao n c (Q+2) 20 u3 (by omega) (by decide) (by decide) a6.out).mono ?_
     rintro e u4 ⟨⟨tb,rfl⟩,d5,a3⟩;have c1:=hI d5;have c5:=hI (a7.out.trans a3);have b8:∀ g,w.heap.size<=g->¬ g=p:=fun g h1 h2=>by omega
     have e6:Hid (u4.ownsRow w.heap.size 3 1 (.slice (some ⟨g2,0,none⟩) (k+1) U) (k+1) (zw (zfM F k s.id) (k+1))):=a3.own a2.out (fun g L=>b8 g (a2.out.lt g L).1)
     have e7:Hid (u4.ownsRow w.heap.size 3 1 (.slice av k cv) k (zw F k)):=a3.own b7.out (fun g L=>b8 g (b7.out.lt g L).1)
     clear d5 a3 a2 b7 a6 a7 b8
     cases tb with
     | true =>
      go_wp2;go_roundw
      case rel=>exact⟨k+1,q - 1,Q+2+2,zfM F k s.id,by omega,rfl,by omega,e6.out,c1.out,c5.out⟩
      case measure=>simp[intOf];omega
     | false =>
      go_wp2;go_roundw
      case rel=>exact⟨k,q - 1,Q+2+2,F,by omega,rfl,by omega,e7.out,c1.out,c5.out⟩
      case measure=>simp[intOf];omega
  ·have hx:decide (0<(q:Int))=false∨(decide (0<(q:Int))=true/\decide (0<(N:Int))=false):=by
    by_cases c:0<q
    ·exact .inr ⟨decide_eq_true (by omega),decide_eq_false (by omega)⟩
    ·exact .inl (decide_eq_false (by omega))
   rcases hx with d1|⟨d1,d2⟩
   ·have i0:¬ (0:Int)<(q:Int):=of_decide_eq_false d1
    go_wp2_with fail;refine Calls.mono (one_any p ao n c Q 30 wr (by omega) (by decide) (by decide) HC.out) ?_
    rintro e u ⟨⟨tb,rfl⟩,Y,H⟩;have D:=hI Y;have T:=hI (HK.out.trans H);have a0:∀ g,w.heap.size<=g->¬ g=p:=fun g h1 h2=>by omega
    have E:Hid (u.ownsRow w.heap.size 3 1 (.slice av k cv) k (zw F k)):=H.own o.out (fun g L=>a0 g (o.out.lt g L).1)
    clear Y H HC HK o
    cases tb with
    | false =>
     go_wp2;go_ret;exact⟨⟨_,k,F,by omega,rfl,E.out⟩,D.out.more (by omega),T.out⟩
    | true =>
     have A:Below u.heap.size u (u.alloc (.cells #[int i64 0,int i64 7,int i64 100] 3)):=zl bZ _;have bL:=heap_alloc_new u (.cells #[int i64 0,int i64 7,int i64 100] 3);have d6:=D.out.lt;go_wp2_with fail;refine(amongL p ao n c (Q+2) 3 [0,7,100] _ rfl (by omega) (by decide) (by decide) (D.out.below A) u.heap.size bL (by omega)).mono ?_
     rintro e u2 ⟨⟨x,rfl⟩,C,m⟩;have J:=hI C;have y:=hI ((T.out.trans (zA.of_below A)).trans m);have f:Hid (u2.ownsRow w.heap.size 3 1 (.slice av k cv) k (zw F k)):=m.own (zp A E.out) (fun g L=>a0 g (E.out.lt g L).1)
     have e4:=y.out.size;have b5:Hid (∀ ad,(some ⟨u2.heap.size,0,none⟩:Option Addr)=some ad->∀ j v,[Value.int .i64 x][j]?=some v->(u2.alloc (.cells #[int i64 x] 3)).cell? (ad.add j)=some v):=by
      intro ad e
      cases e
      exact World.news_of_block (heap_alloc_new u2 _)
     clear C m bL A;go_wp2_with (first|(at_builtin;refine zu _ (by rfl) (.tmp 45) (.tmp 49) 37 (by rfl) w.heap.size 3 n0 (int i64 0) 1 8 Tryz.underlying37 ni M O P rfl (by decide) _ k (zw F k) (by rfl) (f.out.alloc _) (some ⟨u2.heap.size,0,none⟩) 1 1 [int i64 x] (by rfl) (fun h=>(by cases h)) (by rfl) b5.out (by intro v hv;simp at hv;subst hv;rfl) (by unfold maxLen;omega) (by omega) (by simp;omega) ?_;intro v4 w4 b9 Z))
     go_ret;have W:=(zl (Below.refl u2.heap.size u2) (.cells #[int i64 x] 3));refine⟨⟨_,k+1,zfM F k x,by omega,rfl,by rw[ZL];exact b9⟩,?_,?_⟩
     ·refine((J.out.below W).far (zS Z) (fun e=>?_) (fun i hi b off e1 e2=>?_)).more (by omega)
      ·have:=(f.out.lt p e).1
       omega
      ·have:=HL.out i hi b off e1
       have:=(f.out.lt b e2).1
       omega
     ·exact(y.out.trans (zA.of_below W)).over (zS Z) (fun b e=>(f.out.lt b e).1)
   ·have i0:(0:Int)<(q:Int):=of_decide_eq_true d1
    have i1:¬ (0:Int)<(N:Int):=of_decide_eq_false d2;go_wp2_with fail;refine Calls.mono (one_any p ao n c Q 30 wr (by omega) (by decide) (by decide) HC.out) ?_
    rintro e u ⟨⟨tb,rfl⟩,Y,H⟩;have D:=hI Y;have T:=hI (HK.out.trans H);have a0:∀ g,w.heap.size<=g->¬ g=p:=fun g h1 h2=>by omega
    have E:Hid (u.ownsRow w.heap.size 3 1 (.slice av k cv) k (zw F k)):=H.own o.out (fun g L=>a0 g (o.out.lt g L).1)
    clear Y H HC HK o
    cases tb with
    | false =>
     go_wp2;go_ret;exact⟨⟨_,k,F,by omega,rfl,E.out⟩,D.out.more (by omega),T.out⟩
    | true =>
     have A:Below u.heap.size u (u.alloc (.cells #[int i64 0,int i64 7,int i64 100] 3)):=zl bZ _;have bL:=heap_alloc_new u (.cells #[int i64 0,int i64 7,int i64 100] 3);have d6:=D.out.lt;go_wp2_with fail;refine(amongL p ao n c (Q+2) 3 [0,7,100] _ rfl (by omega) (by decide) (by decide) (D.out.below A) u.heap.size bL (by omega)).mono ?_
     rintro e u2 ⟨⟨x,rfl⟩,C,m⟩;have J:=hI C;have y:=hI ((T.out.trans (zA.of_below A)).trans m);have f:Hid (u2.ownsRow w.heap.size 3 1 (.slice av k cv) k (zw F k)):=m.own (zp A E.out) (fun g L=>a0 g (E.out.lt g L).1)
     have e4:=y.out.size;have b5:Hid (∀ ad,(some ⟨u2.heap.size,0,none⟩:Option Addr)=some ad->∀ j v,[Value.int .i64 x][j]?=some v->(u2.alloc (.cells #[int i64 x] 3)).cell? (ad.add j)=some v):=by
      intro ad e
      cases e
      exact World.news_of_block (heap_alloc_new u2 _)
     clear C m bL A;go_wp2_with (first|(at_builtin;refine zu _ (by rfl) (.tmp 45) (.tmp 49) 37 (by rfl) w.heap.size 3 n0 (int i64 0) 1 8 Tryz.underlying37 ni M O P rfl (by decide) _ k (zw F k) (by rfl) (f.out.alloc _) (some ⟨u2.heap.size,0,none⟩) 1 1 [int i64 x] (by rfl) (fun h=>(by cases h)) (by rfl) b5.out (by intro v hv;simp at hv;subst hv;rfl) (by unfold maxLen;omega) (by omega) (by simp;omega) ?_;intro v4 w4 b9 Z))
     go_ret;have W:=(zl (Below.refl u2.heap.size u2) (.cells #[int i64 x] 3));refine⟨⟨_,k+1,zfM F k x,by omega,rfl,by rw[ZL];exact b9⟩,?_,?_⟩
     ·refine((J.out.below W).far (zS Z) (fun e=>?_) (fun i hi b off e1 e2=>?_)).more (by omega)
      ·have:=(f.out.lt p e).1
       omega
      ·have:=HL.out i hi b off e1
       have:=(f.out.lt b e2).1
       omega
     ·exact(y.out.trans (zA.of_below W)).over (zS Z) (fun b e=>(f.out.lt b e).1)
section
open Go.RowKit
structure zat (w u:World)(j:Nat)(l:Option Addr)(n c a k:Nat)(x:Off)(d e f:Option Addr)(g h i:Nat)(L C A B D E:Nat->Value):Prop where
 cur:CurIs u j l n c a
 kept:zA w u (fun b=>b=j)
 lt:w.heap.size<k
 res:u.heap[w.heap.size]?=some (.cells #[.slice none 0 0,.slice none 0 0,.slice none 0 0] 27 (0,0))
 box:u.heap[k]?=some (.cells #[.slice d x.san g,.slice e x.ldn h,.slice f x.bkn i] 27 (0,0))
 own:zy u w.heap.size (.slice d x.san g) (.slice e x.ldn h) (.slice f x.bkn i) x.san x.ldn x.bkn x L C A B D E
section
variable {w u u' : World} {cb n c a a' ob : Nat} {ao : Option Addr} {x : Off} {a1 a2 a3 : Option Addr} {c1 c2 c3 : Nat} {L C A B D E : Nat -> Value}
theorem zy.cur {f g i:Value}{base d e n3:Nat}(h:zy u base f g i d e n3 x L C A B D E)(k:CurIs u cb ao n c a)(l:zA u u' (fun b=>b=cb)):zy u' base f g i d e n3 x L C A B D E:=by
 obtain⟨⟨p,s,hp,j⟩,_⟩:=k;exact h.box l j (by decide)
theorem zat.on (h:zat w u cb ao n c a ob x a1 a2 a3 c1 c2 c3 L C A B D E)(f:cb<w.heap.size)(e:CurIs u' cb ao n c a')(d:zA u u' (fun b=>b=cb)):zat w u' cb ao n c a' ob x a1 a2 a3 c1 c2 c3 L C A B D E :=
 have h1:=h.lt
 ⟨e,h.kept.trans d,h.lt,d.blk h.res (by omega),d.blk h.box (by omega),h.own.cur h.cur d⟩
theorem zat.below (h:zat w u cb ao n c a ob x a1 a2 a3 c1 c2 c3 L C A B D E)(b:Below u.heap.size u u'):zat w u' cb ao n c a ob x a1 a2 a3 c1 c2 c3 L C A B D E :=
 ⟨h.cur.below b,h.kept.trans (zA.of_below b),h.lt,zb h.res b,zb h.box b,h.own.below b⟩
theorem zat.more (h:zat w u cb ao n c a ob x a1 a2 a3 c1 c2 c3 L C A B D E)(b:a<=a'):zat w u cb ao n c a' ob x a1 a2 a3 c1 c2 c3 L C A B D E :=
 ⟨h.cur.more b,h.kept,h.lt,h.res,h.box,h.own⟩
theorem zat.sails (h:zat w u cb ao n c a ob x a1 a2 a3 c1 c2 c3 L C A B D E):∀ z,zA u z (fun b=>b=cb)->SailsAt z a1 x.san x.sa:=fun _ d=>(h.own.cur h.cur d).sa.at
theorem zat.cap (h:zat w u cb ao n c a ob x a1 a2 a3 c1 c2 c3 L C A B D E):x.bkn<=c3:=by
 obtain⟨b,d,e,f,_⟩:=zr h.own.bk.row
 cases e
 exact f
theorem zat.s (h:zat w u cb ao n c a ob x a1 a2 a3 c1 c2 c3 L C A B D E):u.cell? ⟨ob,0,none⟩=some (.slice a1 x.san c1)/\u.cell? ⟨ob,1,none⟩=some (.slice a2 x.ldn c2)/\u.cell? ⟨ob,2,none⟩=some (.slice a3 x.bkn c3) :=
 ⟨za h.box 0 _ rfl,za h.box 1 _ rfl,za h.box 2 _ rfl⟩
theorem zat.to {d:Off}{b1 b2 b3:Option Addr}{d1 d2 d3:Nat}{q m j l o p:Nat->Value}(h:zat w u cb ao n c a ob x a1 a2 a3 c1 c2 c3 L C A B D E)(s:cb<w.heap.size)(hl:qO w ao n)
  (r:zy u w.heap.size (.slice b1 d.san d1) (.slice b2 d.ldn d2) (.slice b3 d.bkn d3) d.san d.ldn d.bkn d q m j l o p) :
  zat w (((u.setCell ⟨ob,0,none⟩ (.slice b1 d.san d1)).setCell ⟨ob,1,none⟩ (.slice b2 d.ldn d2)).setCell ⟨ob,2,none⟩ (.slice b3 d.bkn d3)) cb ao n c a ob d b1 b2 b3 d1 d2 d3 q m j l o p:=by
 have h0:=h.lt;have f:cb≠ob:=by omega
 have g:∀ k,k<n->∀ b off,ao=some ⟨b,off,none⟩->b≠ob:=fun k i b off e=>by have:=hl k i b off e;omega
 have i:zA u (((u.setCell ⟨ob,0,none⟩ (.slice b1 d.san d1)).setCell ⟨ob,1,none⟩ (.slice b2 d.ldn d2)).setCell ⟨ob,2,none⟩ (.slice b3 d.bkn d3)) (fun b=>b=ob):=(((zA.refl u (fun b=>b=ob)).set (a:=⟨ob,0,none⟩) rfl _).set (a:=⟨ob,1,none⟩) rfl _).set (a:=⟨ob,2,none⟩) rfl _
 exact⟨((h.cur.box f g 0 _).box f g 1 _).box f g 2 _,ZB (ZB (ZB h.kept (by omega) _ _) (by omega) _ _) (by omega) _ _,h.lt,zB (zB (zB h.res 0 _ (by omega)) 1 _ (by omega)) 2 _ (by omega),zdE h.box _ _ _,r.box i h.box (by decide)⟩
theorem zat.other {g t:Nat}{cs:Array Value}(h:zat w u cb ao n c a ob x a1 a2 a3 c1 c2 c3 L C A B D E)(i:cb<w.heap.size)(hl:qO w ao n)(d:zA u u' (fun b=>b=g))(j:u.heap[g]?=some (.cells cs t (0,0)))
  (l:33≠t/\88≠t/\96≠t/\55≠t/\84≠t/\93≠t/\99≠t/\43≠t/\3≠t) (h1:ob<g):zat w u' cb ao n c a ob x a1 a2 a3 c1 c2 c3 L C A B D E:=by
 have h0:=h.lt;exact⟨h.cur.far d (by omega) (fun k f b off e=>by have:=hl k f b off e;omega),h.kept.over d (fun b e=>by have e:b=g:=e;omega),h.lt,d.blk h.res (by omega),d.blk h.box (by omega),h.own.box d j l⟩
theorem zat.ob_lt (h:zat w u cb ao n c a ob x a1 a2 a3 c1 c2 c3 L C A B D E):ob<u.heap.size:=zQ h.box
theorem CurX.is (h:CurX u cb ao n c a):CurIs u cb ao n c a:=by
 obtain⟨p,s,d,b⟩:=h;exact b.is.more d
end
end
theorem ofL (d:Nat)(i:Option Addr)(n c a:Nat)(m:Nat)(l:List ByteArray)(w:World)(hl:l.length=m)(v:a<=900000000000000000)(x:1<=m)(k:m<=100000)(h:CurIs w d i n c a)(b:Nat)(q:w.heap[b]?=some (.cells (l.map Value.string).toArray 9 (0,0)))(o:b≠d) :
  Calls Tryz.prog 101 #[.pointer (some ⟨d,0,none⟩),.slice (some ⟨b,0,none⟩) m m] w fun e w'=>(∃ s,e=.returned (.string s)/\Hid (s ∈ l))/\CurIs w' d i n c (a+2)/\zA w w' (fun b=>b=d):=by
 have t:=hI q;clear q;go_enter Tryz.func101,Tryz.ntmps101;go_wp2_with fail;refine(pick_any d i n c a m _ v x k h).mono ?_;rintro e y ⟨⟨r,rfl,hr⟩,j,g⟩;have f:=g.blk t.out o;obtain⟨s,p⟩:∃ s,l[r]?=some s:=⟨_,List.getElem?_eq_getElem (by omega)⟩
 have u:Hid (s ∈ l):=List.mem_of_getElem? p;have c1:y.cell? ⟨b,r,none⟩=some (.string s):=za f r _ (by simp[p])
 have i1:(r:Int)<(m:Int):=by omega
 clear p f;go_wp2;go_ret;exact⟨⟨s,rfl,u⟩,j,g⟩
structure OpD where
 kind:Int
 own:ByteArray
 name:Int
 lgn:Nat
 lg:Nat->Int
 pe:Int
 len:Int
 hei:Int
 cl:Int
 all:Bool
 be:Int
 unt:Int
 now:Int
def OpD.Is (w:World)(cs:List Value)(x:OpD):Prop :=
 ∃ alg clg,cs=[int i64 x.kind,.string x.own,int i64 x.name,.slice alg x.lgn clg,int i64 x.pe,int i64 x.len,int i64 x.hei,int i64 x.cl,.bool x.all,int i64 x.be,int i64 x.unt,int i64 x.now]/\zX w alg x.lgn x.lg/\zZ alg x.lgn clg
theorem OpD.Is.below {w w':World}{cs:List Value}{x:OpD}(h:OpD.Is w cs x)(f:Below w.heap.size w w'):OpD.Is w' cs x:=by
 obtain⟨a,b,e,c,d⟩:=h;exact⟨a,b,e,c.below f,d⟩
section
open Go.RowKit
def zah (y:OpD)(lv:Value):Array Value:=#[int i64 y.kind,.string y.own,int i64 y.name,lv,int i64 y.pe,int i64 y.len,int i64 y.hei,int i64 y.cl,.bool y.all,int i64 y.be,int i64 y.unt,int i64 y.now]
structure Z6 (w u:World)(d:Nat)(f:Option Addr)(n c a e:Nat)(g h i:Value)(y:OpD)(lv:Value):Prop where
 cur:CurIs u d f n c a
 kept:zA w u (fun b=>b=d)
 lt:w.heap.size+1<e
 off:u.heap[w.heap.size]?=some (.cells #[g,h,i] 27 (0,0))
 res:u.heap[w.heap.size+1]?=some (.cells #[int i64 0,.string ⟨#[]⟩,int i64 0,.slice none 0 0,int i64 0,int i64 0,int i64 0,int i64 0,.bool false,int i64 0,int i64 0,int i64 0] 120 (0,0))
 box:u.heap[e]?=some (.cells (zah y lv) 120 (0,0))
 legs:u.ownsRow w.heap.size 3 1 lv y.lgn (zw y.lg y.lgn)
section
variable {w u u' : World} {cb n c a a' pb : Nat} {ao : Option Addr} {o1 o2 o3 lv : Value} {y : OpD}
theorem Z6.on (h:Z6 w u cb ao n c a pb o1 o2 o3 y lv)(i:cb<w.heap.size)(f:CurIs u' cb ao n c a')(d:zA u u' (fun b=>b=cb)):Z6 w u' cb ao n c a' pb o1 o2 o3 y lv :=
 have h1:=h.lt
 ⟨f,h.kept.trans d,h.lt,d.blk h.off (by omega),d.blk h.res (by omega),d.blk h.box (by omega),d.own h.legs (fun g j e=>by have e:g=cb:=e;have:=(h.legs.lt g j).1;omega)⟩
theorem Z6.below (h:Z6 w u cb ao n c a pb o1 o2 o3 y lv)(b:Below u.heap.size u u'):Z6 w u' cb ao n c a pb o1 o2 o3 y lv :=
 ⟨h.cur.below b,h.kept.trans (zA.of_below b),h.lt,zb h.off b,zb h.res b,zb h.box b,zp b h.legs⟩
theorem Z6.more (h:Z6 w u cb ao n c a pb o1 o2 o3 y lv)(b:a<=a'):Z6 w u cb ao n c a' pb o1 o2 o3 y lv :=
 ⟨h.cur.more b,h.kept,h.lt,h.off,h.res,h.box,h.legs⟩
theorem zgv {t m:Nat}{v:Value}{c:List Value}{cs:Array Value}{b k:Nat}(h:u.ownsRow k 3 1 v m c)(d:u.heap[b]?=some (.cells cs t (0,0)))(j:3≠t)(i:Nat)(z:Value):(u.setCell ⟨b,i,none⟩ z).ownsRow k 3 1 v m c :=
 ((zA.refl u (fun z=>z=b)).set (a:=⟨b,i,none⟩) rfl z).own h (fun g f e=>qD h d j g f e)
theorem Z6.put (h:Z6 w u cb ao n c a pb o1 o2 o3 y lv)(j:cb<w.heap.size)(hl:qO w ao n)(i:Nat)(v:Value)(f:OpD)(d:Value)(l:(zah y lv).setIfInBounds i v=zah f d)(g:u.ownsRow w.heap.size 3 1 d f.lgn (zw f.lg f.lgn)):Z6 w (u.setCell ⟨pb,i,none⟩ v) cb ao n c a pb o1 o2 o3 f d :=
 have h1:=h.lt
 ⟨h.cur.box (by omega) (fun k m b off e=>by have:=hl k m b off e;omega) i v,ZB h.kept (by omega) i v,h.lt,zB h.off i v (by omega),zB h.res i v (by omega),by rw[← l];exact zt h.box i v,zgv g h.box (by decide) i v⟩
theorem Z6.put0 (h:Z6 w u cb ao n c a pb o1 o2 o3 y lv)(b:cb<w.heap.size)(hl:qO w ao n)(x:Int):Z6 w (u.setCell ⟨pb,0,none⟩ (int i64 x)) cb ao n c a pb o1 o2 o3 { y with kind:=x } lv:=h.put b hl 0 _ _ _ rfl h.legs
theorem Z6.put1 (h:Z6 w u cb ao n c a pb o1 o2 o3 y lv)(b:cb<w.heap.size)(hl:qO w ao n)(x:ByteArray):Z6 w (u.setCell ⟨pb,1,none⟩ (.string x)) cb ao n c a pb o1 o2 o3 { y with own:=x } lv:=h.put b hl 1 _ _ _ rfl h.legs
theorem Z6.put2 (h:Z6 w u cb ao n c a pb o1 o2 o3 y lv)(b:cb<w.heap.size)(hl:qO w ao n)(x:Int):Z6 w (u.setCell ⟨pb,2,none⟩ (int i64 x)) cb ao n c a pb o1 o2 o3 { y with name:=x } lv:=h.put b hl 2 _ _ _ rfl h.legs
theorem Z6.put3 (h:Z6 w u cb ao n c a pb o1 o2 o3 y lv)(b:cb<w.heap.size)(hl:qO w ao n)(v:Value)(k:Nat)(F:Nat->Int)(d:u.ownsRow w.heap.size 3 1 v k (zw F k)):Z6 w (u.setCell ⟨pb,3,none⟩ v) cb ao n c a pb o1 o2 o3 { y with lgn:=k,lg:=F } v:=h.put b hl 3 _ _ _ rfl d
theorem Z6.put10 (h:Z6 w u cb ao n c a pb o1 o2 o3 y lv)(b:cb<w.heap.size)(hl:qO w ao n)(x:Int):Z6 w (u.setCell ⟨pb,10,none⟩ (int i64 x)) cb ao n c a pb o1 o2 o3 { y with unt:=x } lv:=h.put b hl 10 _ _ _ rfl h.legs
theorem Z6.put11 (h:Z6 w u cb ao n c a pb o1 o2 o3 y lv)(b:cb<w.heap.size)(hl:qO w ao n)(x:Int):Z6 w (u.setCell ⟨pb,11,none⟩ (int i64 x)) cb ao n c a pb o1 o2 o3 { y with now:=x } lv:=h.put b hl 11 _ _ _ rfl h.legs
def putP (u:World)(a:Nat)(b c d e:Int)(f:Bool)(g:Int):World:=(((((u.setCell ⟨a,4,none⟩ (int i64 b)).setCell ⟨a,5,none⟩ (int i64 c)).setCell ⟨a,6,none⟩ (int i64 d)).setCell ⟨a,7,none⟩ (int i64 e)).setCell ⟨a,8,none⟩ (.bool f)).setCell ⟨a,9,none⟩ (int i64 g)
theorem Z6.putP (h:Z6 w u cb ao n c a pb o1 o2 o3 y lv)(b:cb<w.heap.size)(hl:qO w ao n)(d e f g:Int)(i:Bool)(j:Int):Z6 w (putP u pb d e f g i j) cb ao n c a pb o1 o2 o3 { y with pe:=d,len:=e,hei:=f,cl:=g,all:=i,be:=j } lv:=by
 have k:=h.put b hl 4 (int i64 d) { y with pe:=d } lv rfl h.legs;have l:=k.put b hl 5 (int i64 e) { y with pe:=d,len:=e } lv rfl k.legs;have m:=l.put b hl 6 (int i64 f) { y with pe:=d,len:=e,hei:=f } lv rfl l.legs;have h7:=m.put b hl 7 (int i64 g) { y with pe:=d,len:=e,hei:=f,cl:=g } lv rfl m.legs;have h8:=h7.put b hl 8 (.bool i) { y with pe:=d,len:=e,hei:=f,cl:=g,all:=i } lv rfl h7.legs;exact h8.put b hl 9 (int i64 j) _ lv rfl h8.legs
def zeI (u:World)(r:Nat)(y:OpD)(lv:Value):World:=(((((((((((u.setCell ⟨r,0,none⟩ (int i64 y.kind)).setCell ⟨r,1,none⟩ (.string y.own)).setCell ⟨r,2,none⟩ (int i64 y.name)).setCell ⟨r,3,none⟩ lv).setCell ⟨r,4,none⟩ (int i64 y.pe)).setCell ⟨r,5,none⟩ (int i64 y.len)).setCell ⟨r,6,none⟩ (int i64 y.hei)).setCell ⟨r,7,none⟩ (int i64 y.cl)).setCell ⟨r,8,none⟩ (.bool y.all)).setCell ⟨r,9,none⟩ (int i64 y.be)).setCell ⟨r,10,none⟩ (int i64 y.unt)).setCell ⟨r,11,none⟩ (int i64 y.now)
theorem Qr {r:Nat}{cs:Array Value}(o:w.heap.size<=r)(g:cb<w.heap.size)(hl:qO w ao n){k:Nat}{v:Value}{m:Nat}{f:List Value}(h:CurIs u cb ao n c a/\zA w u (fun b=>b=cb)/\u.heap[r]?=some (.cells cs 120 (0,0))/\u.ownsRow k 3 1 v m f)(i:Nat)(z:Value)(d:Array Value)(j:cs.setIfInBounds i z=d) :
  CurIs (u.setCell ⟨r,i,none⟩ z) cb ao n c a/\zA w (u.setCell ⟨r,i,none⟩ z) (fun b=>b=cb)/\(u.setCell ⟨r,i,none⟩ z).heap[r]?=some (.cells d 120 (0,0))/\(u.setCell ⟨r,i,none⟩ z).ownsRow k 3 1 v m f :=
 ⟨h.1.box (by omega) (fun k l b off e=>by have:=hl k l b off e;omega) i z,ZB h.2.1 o i z,by rw[← j];exact zt h.2.2.1 i z,zgv h.2.2.2 h.2.2.1 (by decide) i z⟩
theorem Z6.fin (h:Z6 w u cb ao n c a pb o1 o2 o3 y lv)(d:cb<w.heap.size)(hl:qO w ao n) :
  CurIs (zeI u (w.heap.size+1) y lv) cb ao n c a/\zA w (zeI u (w.heap.size+1) y lv) (fun b=>b=cb)/\(zeI u (w.heap.size+1) y lv).heap[w.heap.size+1]?=some (.cells (zah y lv) 120 (0,0))/\(zeI u (w.heap.size+1) y lv).ownsRow w.heap.size 3 1 lv y.lgn (zw y.lg y.lgn):=by
 have e:w.heap.size<=w.heap.size+1:=by omega
 have j:CurIs u cb ao n c a/\zA w u (fun b=>b=cb)/\u.heap[w.heap.size+1]?=some (.cells #[int i64 0,.string ⟨#[]⟩,int i64 0,.slice none 0 0,int i64 0,int i64 0,int i64 0,int i64 0,.bool false,int i64 0,int i64 0,int i64 0] 120 (0,0))/\u.ownsRow w.heap.size 3 1 lv y.lgn (zw y.lg y.lgn):=⟨h.cur,h.kept,h.res,h.legs⟩
 have k:=Qr e d hl j 0 (int i64 y.kind) #[int i64 y.kind,.string ⟨#[]⟩,int i64 0,.slice none 0 0,int i64 0,int i64 0,int i64 0,int i64 0,.bool false,int i64 0,int i64 0,int i64 0] rfl;have l:=Qr e d hl k 1 (.string y.own) #[int i64 y.kind,.string y.own,int i64 0,.slice none 0 0,int i64 0,int i64 0,int i64 0,int i64 0,.bool false,int i64 0,int i64 0,int i64 0] rfl;have m:=Qr e d hl l 2 (int i64 y.name) #[int i64 y.kind,.string y.own,int i64 y.name,.slice none 0 0,int i64 0,int i64 0,int i64 0,int i64 0,.bool false,int i64 0,int i64 0,int i64 0] rfl;have o:=Qr e d hl m 3 (lv) #[int i64 y.kind,.string y.own,int i64 y.name,lv,int i64 0,int i64 0,int i64 0,int i64 0,.bool false,int i64 0,int i64 0,int i64 0] rfl;have p:=Qr e d hl o 4 (int i64 y.pe) #[int i64 y.kind,.string y.own,int i64 y.name,lv,int i64 y.pe,int i64 0,int i64 0,int i64 0,.bool false,int i64 0,int i64 0,int i64 0] rfl;have q:=Qr e d hl p 5 (int i64 y.len) #[int i64 y.kind,.string y.own,int i64 y.name,lv,int i64 y.pe,int i64 y.len,int i64 0,int i64 0,.bool false,int i64 0,int i64 0,int i64 0] rfl;have r:=Qr e d hl q 6 (int i64 y.hei) #[int i64 y.kind,.string y.own,int i64 y.name,lv,int i64 y.pe,int i64 y.len,int i64 y.hei,int i64 0,.bool false,int i64 0,int i64 0,int i64 0] rfl;have s:=Qr e d hl r 7 (int i64 y.cl) #[int i64 y.kind,.string y.own,int i64 y.name,lv,int i64 y.pe,int i64 y.len,int i64 y.hei,int i64 y.cl,.bool false,int i64 0,int i64 0,int i64 0] rfl;have t:=Qr e d hl s 8 (.bool y.all) #[int i64 y.kind,.string y.own,int i64 y.name,lv,int i64 y.pe,int i64 y.len,int i64 y.hei,int i64 y.cl,.bool y.all,int i64 0,int i64 0,int i64 0] rfl;have f:=Qr e d hl t 9 (int i64 y.be) #[int i64 y.kind,.string y.own,int i64 y.name,lv,int i64 y.pe,int i64 y.len,int i64 y.hei,int i64 y.cl,.bool y.all,int i64 y.be,int i64 0,int i64 0] rfl;have g:=Qr e d hl f 10 (int i64 y.unt) #[int i64 y.kind,.string y.own,int i64 y.name,lv,int i64 y.pe,int i64 y.len,int i64 y.hei,int i64 y.cl,.bool y.all,int i64 y.be,int i64 y.unt,int i64 0] rfl;have i:=Qr e d hl g 11 (int i64 y.now) #[int i64 y.kind,.string y.own,int i64 y.name,lv,int i64 y.pe,int i64 y.len,int i64 y.hei,int i64 y.cl,.bool y.all,int i64 y.be,int i64 y.unt,int i64 y.now] rfl;exact i
end
end
end Go.Proofs.YtgmdnkngnhkgbaaGreat
