import Derived.Shelf.Strconv.Clone
import Derived.Shelf.Strings.Search2
import Derived.Lib.IndexLaws
import Derived.Test.YtfallpinmhbemaaGreatDoorB43
namespace Go.Proofs.YtfallpinmhbemaaGreatDoor
open Go.RowKit
open Go.Value (int)
open Go.IntKind (i64)
set_option maxHeartbeats 64000000
set_option maxRecDepth 1000000
def Qu (N:Nat)(x:Off)(y:OpD):Prop:=(zR y.kind/\¬ zba N x.sa y.lgn y.lg)∨(y.kind=9/\qo x.sa (y.lg 0) N=N)
def Z2 (N R m:Nat)(x:Off)(y:OpD)(code:Int):Prop :=
 (¬ Qz y->code=1)/\(Qz y->Qu N x y->code=2)/\(Qz y->¬ Qu N x y->In y.kind 4 8->zcr R m x y code)/\(Qz y->¬ Qu N x y->¬ In y.kind 4 8->code=0)
theorem zhg (b t s k:Option Addr)(N M R d A z j m:Nat)(x:Off)(y:OpD)(w:World)(hN:N<=1048576)(hR:R<=1048576)(hl:y.lgn<=1048576)(ho:y.own.size<=1000000000000000)(hz:SailsAt w b N x.sa)(a5:ZU w s R x.bk)(a2:OpD.Is w [int i64 y.kind,.string y.own,int i64 y.name,.slice k y.lgn j,int i64 y.pe,int i64 y.len,int i64 y.hei,int i64 y.cl,.bool y.all,int i64 y.be,int i64 y.unt,int i64 y.now] y)(hm:Qz y->In y.kind 4 8->y.name=(m:Int)+1/\m<=1048576) :
  Calls Tryz.prog 120 #[.agg #[.slice b N d,.slice t M A,.slice s R z],.agg #[int i64 y.kind,.string y.own,int i64 y.name,.slice k y.lgn j,int i64 y.pe,int i64 y.len,int i64 y.hei,int i64 y.cl,.bool y.all,int i64 y.be,int i64 y.unt,int i64 y.now]] w fun e w'=>(∃ code:Int,e=.returned (int i64 code)/\Z2 N R m x y code)/\Below w.heap.size w w':=by
 have HM:=hI hm;clear hm;have Y:=hI a5;have HZ:=hI hz;have b0:=hI a2;have a3:Hid (IntsAt w k y.lgn y.lg):=by
  obtain⟨a,c,e,h,_⟩:=a2;simp only[List.cons.injEq,Value.slice.injEq] at e;obtain⟨_,_,_,⟨rfl,_,_⟩,_⟩:=e;exact h
 clear a5 hz a2;have S:Below w.heap.size w ((w.alloc (.cells #[.slice b N d,.slice t M A,.slice s R z] 66)).alloc (.cells #[int i64 y.kind,.string y.own,int i64 y.name,.slice k y.lgn j,int i64 y.pe,int i64 y.len,int i64 y.hei,int i64 y.cl,.bool y.all,int i64 y.be,int i64 y.unt,int i64 y.now] 27)):=zr (zr bZ _) _;have bF:((w.alloc (.cells #[.slice b N d,.slice t M A,.slice s R z] 66)).alloc (.cells #[int i64 y.kind,.string y.own,int i64 y.name,.slice k y.lgn j,int i64 y.pe,int i64 y.len,int i64 y.hei,int i64 y.cl,.bool y.all,int i64 y.be,int i64 y.unt,int i64 y.now] 27)).heap[w.heap.size]?=some (.cells #[.slice b N d,.slice t M A,.slice s R z] 66 (0,0)):=ze (heap_alloc_new w _) _;have bO:((w.alloc (.cells #[.slice b N d,.slice t M A,.slice s R z] 66)).alloc (.cells #[int i64 y.kind,.string y.own,int i64 y.name,.slice k y.lgn j,int i64 y.pe,int i64 y.len,int i64 y.hei,int i64 y.cl,.bool y.all,int i64 y.be,int i64 y.unt,int i64 y.now] 27)).heap[w.heap.size+1]?=some (.cells #[int i64 y.kind,.string y.own,int i64 y.name,.slice k y.lgn j,int i64 y.pe,int i64 y.len,int i64 y.hei,int i64 y.cl,.bool y.all,int i64 y.be,int i64 y.unt,int i64 y.now] 27 (0,0)):=by simpa using heap_alloc_new (w.alloc (.cells #[.slice b N d,.slice t M A,.slice s R z] 66)) _
 go_enter Tryz.func120,Tryz.ntmps120;go_upto_region 1 with fail;generalize (w.alloc (.cells #[.slice b N d,.slice t M A,.slice s R z] 66)).alloc (.cells #[int i64 y.kind,.string y.own,int i64 y.name,.slice k y.lgn j,int i64 y.pe,int i64 y.len,int i64 y.hei,int i64 y.cl,.bool y.all,int i64 y.be,int i64 y.unt,int i64 y.now] 27)=V at S bF bO ⊢;obtain⟨o0,o1,o2,o3,o4,o5,o6,o7,o8,o9,b6,b7⟩:=ce12 bO;obtain⟨q,hq⟩:∃ q:Bool,q=decide (Qz y):=⟨_,rfl⟩;have cg:=zeq [int i64 y.kind,.string y.own,int i64 y.name,.slice k y.lgn j,int i64 y.pe,int i64 y.len,int i64 y.hei,int i64 y.cl,.bool y.all,int i64 y.be,int i64 y.unt,int i64 y.now] y V ho (b0.out.below S);rw[← hq] at cg;have HQ:Hid (q=true↔Qz y):=by rw[hq];exact decide_eq_true_iff
 clear hq;go_wp2_with fail;refine cg.mono ?_;clear cg;rintro e H ⟨rfl,T⟩;have G:=zc bO T;have I:=zc bF T;have B:=hI (zj S T);clear o0 o1 o2 o3 o4 o5 o6 o7 o8 o9 b6 b7 bO bF S T
 cases q with
 | false =>
  have W:¬ Qz y:=fun h=>by have:=HQ.out.2 h;cases this
  have C:Hid (Z2 N R m x y 1):=⟨fun _=>rfl,fun h=>absurd h W,fun h=>absurd h W,fun h=>absurd h W⟩
  clear W;go_wp2;go_ret;exact⟨⟨1,rfl,C.out⟩,B.out⟩
 | true =>
  have p:Hid (Qz y):=by first|exact HQ.out.1 rfl|exact HQ.out.1 trivial
  have o0:=za G 0 _ rfl;have o3:=za G 3 _ rfl;have f0:=za I 0 _ rfl
  by_cases hL:zR y.kind
  ·have dL:decide (zR y.kind)=true:=decide_eq_true hL
   have k9:(y.kind == 9)=false:=by rw[beq_eq_false_iff_ne];unfold zR at hL;omega
   go_wp2_with (go_at_call 44;refine sC (zY _ _) ?_);refine(zdh b k N y.lgn d j x.sa y.lg _ hN hl (HZ.out.below B.out) (a3.out.below B.out)).mono ?_;rintro e w2 ⟨⟨r,rfl,hr⟩,U⟩;have i:=zc G U;have l:=zc I U;have o:=hI (zj B.out U);have Z:=hI hr;clear o0 o3 f0 G I B U hr dL
   cases r with
   | false =>
    have C:Hid (Z2 N R m x y 2):=by
     have Q:Qu N x y:=.inl ⟨hL,fun h=>by have:=Z.out.2 h;cases this⟩
     exact⟨fun h=>absurd p.out h,fun _ _=>rfl,fun _ h=>absurd Q h,fun _ h=>absurd Q h⟩
    clear hL;go_wp2;go_ret;exact⟨⟨2,rfl,C.out⟩,o.out⟩
   | true =>
    have D:Hid (¬ Qu N x y):=by
     rintro(⟨_,h⟩|⟨h,_⟩)
     ·exact h (by first|exact Z.out.1 rfl|exact Z.out.1 trivial)
     ·unfold zR at hL;omega
    clear hL;have u0:∀ h:qe w2,h.val.cell? ⟨w.heap.size+1,0,none⟩=some (int i64 y.kind):=fun h=>za (zc i h.bel) 0 _ rfl
    have u3:∀ h:qe w2,h.val.cell? ⟨w.heap.size+1,3,none⟩=some (.slice k y.lgn j):=fun h=>za (zc i h.bel) 3 _ rfl
    have v0:∀ h:qe w2,h.val.cell? ⟨w.heap.size,0,none⟩=some (.slice b N d):=fun h=>za (zc l h.bel) 0 _ rfl
    go_upto_region 5 with fail;refine zp (by kernel_rfl) (by kernel_rfl) ?_
    repeat(first|go_big_quiet_skip|(go_big_quiet_want;go_big_quiet_op;first|go_big_quiet_on))
    refine wpQuiet_nil ?_;rintro _ ⟨g,rfl⟩;have n:=zc i g.bel;have u:=zc l g.bel;have f:=hI (zj o.out g.bel);generalize g.val=w3 at n u f ⊢;clear u0 u3 v0 i l o
    by_cases hn:In y.kind 4 8
    ·have K:decide (In y.kind 4 8)=true:=decide_eq_true hn
     obtain⟨p0,p1,p2,p3,p4,p5,p6,p7,p8,p9,a7,a8⟩:=ce12 n;obtain⟨s0,s1,s2⟩:=ce3 u;have E:=hI (HM.out p.out hn);go_wp2_with (go_at_call 43;refine sC (zS _ _) ?_);refine(QZ b t s k N M R d A z j m x y w3 hR E.out.2 E.out.1 (Y.out.below f.out)).mono ?_;rintro e w4 ⟨⟨code,rfl,F⟩,L⟩;have C:Hid (Z2 N R m x y code):=⟨fun h=>absurd p.out h,fun _ h=>absurd h D.out,fun _ _ _=>F,fun _ _ h=>absurd hn h⟩
     have J:=hI (zj f.out L);clear F;go_wp2;go_ret;exact⟨⟨code,rfl,C.out⟩,J.out⟩
    ·have K:decide (In y.kind 4 8)=false:=decide_eq_false hn
     have p0:=za n 0 _ rfl;have C:Hid (Z2 N R m x y 0):=⟨fun h=>absurd p.out h,fun _ h=>absurd h D.out,fun _ _ h=>absurd h hn,fun _ _ _=>rfl⟩
     go_wp2_with (go_at_call 43;refine sC (zS _ _) ?_);go_ret;exact⟨⟨0,rfl,C.out⟩,f.out⟩
  ·have dL:decide (zR y.kind)=false:=decide_eq_false hL
   have i:=G;have l:=I;have o:=hI B
   by_cases h9:y.kind=9
   ·have a6:y.lgn=1:=by
     have h:=p.out.2.2.2.1;unfold qj at h;rw[if_neg hL,if_pos h9] at h;exact h
    have k9:(y.kind == 9)=true:=by rw[beq_iff_eq];exact h9
    have H9:=hI h9;obtain⟨gb,go,b5,a1⟩:=a3.out 0 (by omega)
    subst b5;have i0:(0:Int)<(y.lgn:Int):=by omega
    have b9:0<y.lgn:=by omega
    have z0:∀ h:qe H,h.val.cell? ⟨gb,go,none⟩=some (int i64 (y.lg 0)):=fun h=>((zj B.out h.bel).cell (World.block_lt_of_cell? w _ a1)).trans a1
    clear G I B a1;have a9:=hI hL;have b8:=hI a6;clear hL h9 a6;obtain⟨fi,a0⟩:∃ fi,fi=qo x.sa (y.lg 0) N:=⟨_,rfl⟩;have P:=hI a0
    by_cases hfx:fi<N
    ·have D:Hid (¬ Qu N x y):=by
      rintro(⟨h,_⟩|⟨_,h⟩)
      ·exact a9.out h
      ·have e:=P.out;omega
     have X:Hid (∀ g:qe H,Calls Tryz.prog 110 #[.slice b N d,int i64 (y.lg 0)] g.val fun e O=>e=.returned (int i64 (fi:Int))/\∃ g':qe H,O=g'.val):=fun g=>zi (v:=int i64 (fi:Int)) ((ZP b N d x.sa (y.lg 0) g.val hN (HZ.out.below (zj o.out g.bel))).mono fun e O ⟨h,Q⟩=>by
      rw[← P.out] at h
      rcases h with⟨_,h⟩|⟨h,_⟩
      ·exact⟨h,Q⟩
      ·omega)
     have d9:decide ((fi:Int)<0)=false:=decide_eq_false (by omega)
     clear a0;go_upto_region 5 with(go_at_call 44;refine sC (zY _ _) ?_);clear o0 o3 f0 dL;have u0:∀ h:qe H,h.val.cell? ⟨w.heap.size+1,0,none⟩=some (int i64 y.kind):=fun h=>za (zc i h.bel) 0 _ rfl
     have u3:∀ h:qe H,h.val.cell? ⟨w.heap.size+1,3,none⟩=some (.slice (some ⟨gb,go,none⟩) y.lgn j):=fun h=>za (zc i h.bel) 3 _ rfl
     have v0:∀ h:qe H,h.val.cell? ⟨w.heap.size,0,none⟩=some (.slice b N d):=fun h=>za (zc l h.bel) 0 _ rfl
     refine zp (by kernel_rfl) (by kernel_rfl) ?_
     repeat(first|go_big_quiet_skip|(go_big_quiet_want;go_big_quiet_op;first|go_big_quiet_on|(apply Exists.intro;refine⟨fun g=>?_,?_⟩;(focus(go_at_call 110;exact X.out g));go_big_quiet_on)))
     refine wpQuiet_nil ?_;rintro _ ⟨g,rfl⟩;have n:=zc i g.bel;have u:=zc l g.bel;have f:=hI (zj o.out g.bel);generalize g.val=w3 at n u f ⊢;clear u0 u3 v0 z0 i l o
     by_cases hn:In y.kind 4 8
     ·have K:decide (In y.kind 4 8)=true:=decide_eq_true hn
      obtain⟨p0,p1,p2,p3,p4,p5,p6,p7,p8,p9,a7,a8⟩:=ce12 n;obtain⟨s0,s1,s2⟩:=ce3 u;have E:=hI (HM.out p.out hn);go_wp2_with (go_at_call 43;refine sC (zS _ _) ?_);refine(QZ b t s (some ⟨gb,go,none⟩) N M R d A z j m x y w3 hR E.out.2 E.out.1 (Y.out.below f.out)).mono ?_;rintro e w4 ⟨⟨code,rfl,F⟩,L⟩;have C:Hid (Z2 N R m x y code):=⟨fun h=>absurd p.out h,fun _ h=>absurd h D.out,fun _ _ _=>F,fun _ _ h=>absurd hn h⟩
      have J:=hI (zj f.out L);clear F;go_wp2;go_ret;exact⟨⟨code,rfl,C.out⟩,J.out⟩
     ·have K:decide (In y.kind 4 8)=false:=decide_eq_false hn
      have p0:=za n 0 _ rfl;have C:Hid (Z2 N R m x y 0):=⟨fun h=>absurd p.out h,fun _ h=>absurd h D.out,fun _ _ h=>absurd h hn,fun _ _ _=>rfl⟩
      go_wp2_with (go_at_call 43;refine sC (zS _ _) ?_);go_ret;exact⟨⟨0,rfl,C.out⟩,f.out⟩
    ·have C:Hid (Z2 N R m x y 2):=by
      have Q:Qu N x y:=.inr ⟨H9.out,by
       have e:=P.out;have h2:=zbK x.sa (y.lg 0) N
       omega⟩
      exact⟨fun h=>absurd p.out h,fun _ _=>rfl,fun _ h=>absurd Q h,fun _ h=>absurd Q h⟩
     have X:Hid (∀ g:qe H,Calls Tryz.prog 110 #[.slice b N d,int i64 (y.lg 0)] g.val fun e O=>e=.returned (int i64 (-1))/\∃ g':qe H,O=g'.val):=fun g=>zi (v:=int i64 (-1)) ((ZP b N d x.sa (y.lg 0) g.val hN (HZ.out.below (zj o.out g.bel))).mono fun e O ⟨h,Q⟩=>by
      rw[← P.out] at h
      rcases h with⟨h,_⟩|⟨_,h⟩
      ·omega
      ·exact⟨h,Q⟩)
     clear a0;go_upto_region 5 with(go_at_call 44;refine sC (zY _ _) ?_);clear o0 o3 f0 dL;have u0:∀ h:qe H,h.val.cell? ⟨w.heap.size+1,0,none⟩=some (int i64 y.kind):=fun h=>za (zc i h.bel) 0 _ rfl
     have u3:∀ h:qe H,h.val.cell? ⟨w.heap.size+1,3,none⟩=some (.slice (some ⟨gb,go,none⟩) y.lgn j):=fun h=>za (zc i h.bel) 3 _ rfl
     have v0:∀ h:qe H,h.val.cell? ⟨w.heap.size,0,none⟩=some (.slice b N d):=fun h=>za (zc l h.bel) 0 _ rfl
     refine zp (by kernel_rfl) (by kernel_rfl) ?_
     repeat(first|go_big_quiet_skip|(go_big_quiet_want;go_big_quiet_op;first|go_big_quiet_on|(apply Exists.intro;refine⟨fun g=>?_,?_⟩;(focus(go_at_call 110;exact X.out g));go_big_quiet_on)))
     refine wpQuiet_nil ?_;rintro _ ⟨g,rfl⟩;have n:=zc i g.bel;have u:=zc l g.bel;have f:=hI (zj o.out g.bel);generalize g.val=w3 at n u f ⊢;clear u0 u3 v0 z0 i l o;go_wp2;go_ret;exact⟨⟨2,rfl,C.out⟩,f.out⟩
   ·have k9:(y.kind == 9)=false:=by rw[beq_eq_false_iff_ne];exact h9
    have D:Hid (¬ Qu N x y):=by
     rintro(⟨h,_⟩|⟨h,_⟩)
     ·exact hL h
     ·exact h9 h
    clear hL h9 G I B;go_upto_region 5 with(go_at_call 44;refine sC (zY _ _) ?_);clear o0 o3 f0 dL;have u0:∀ h:qe H,h.val.cell? ⟨w.heap.size+1,0,none⟩=some (int i64 y.kind):=fun h=>za (zc i h.bel) 0 _ rfl
    have u3:∀ h:qe H,h.val.cell? ⟨w.heap.size+1,3,none⟩=some (.slice k y.lgn j):=fun h=>za (zc i h.bel) 3 _ rfl
    have v0:∀ h:qe H,h.val.cell? ⟨w.heap.size,0,none⟩=some (.slice b N d):=fun h=>za (zc l h.bel) 0 _ rfl
    refine zp (by kernel_rfl) (by kernel_rfl) ?_
    repeat(first|go_big_quiet_skip|(go_big_quiet_want;go_big_quiet_op;first|go_big_quiet_on))
    refine wpQuiet_nil ?_;rintro _ ⟨g,rfl⟩;have n:=zc i g.bel;have u:=zc l g.bel;have f:=hI (zj o.out g.bel);generalize g.val=w3 at n u f ⊢;clear u0 u3 v0 i l o
    by_cases hn:In y.kind 4 8
    ·have K:decide (In y.kind 4 8)=true:=decide_eq_true hn
     obtain⟨p0,p1,p2,p3,p4,p5,p6,p7,p8,p9,a7,a8⟩:=ce12 n;obtain⟨s0,s1,s2⟩:=ce3 u;have E:=hI (HM.out p.out hn);go_wp2_with (go_at_call 43;refine sC (zS _ _) ?_);refine(QZ b t s k N M R d A z j m x y w3 hR E.out.2 E.out.1 (Y.out.below f.out)).mono ?_;rintro e w4 ⟨⟨code,rfl,F⟩,L⟩;have C:Hid (Z2 N R m x y code):=⟨fun h=>absurd p.out h,fun _ h=>absurd h D.out,fun _ _ _=>F,fun _ _ h=>absurd hn h⟩
     have J:=hI (zj f.out L);clear F;go_wp2;go_ret;exact⟨⟨code,rfl,C.out⟩,J.out⟩
    ·have K:decide (In y.kind 4 8)=false:=decide_eq_false hn
     have p0:=za n 0 _ rfl;have C:Hid (Z2 N R m x y 0):=⟨fun h=>absurd p.out h,fun _ h=>absurd h D.out,fun _ _ h=>absurd h hn,fun _ _ _=>rfl⟩
     go_wp2_with (go_at_call 43;refine sC (zS _ _) ?_);go_ret;exact⟨⟨0,rfl,C.out⟩,f.out⟩
theorem zgp (w:World):Calls Tryz.prog 46 #[] w fun e w'=>∃ g,e=.returned (.slice (some ⟨g,0,none⟩) 10 10)/\Hid (∀ k,k<10->w'.cell? ⟨g,k,none⟩=some (.string (zP k)))/\Below w.heap.size w w':=by
 have b:Below w.heap.size w (w.alloc (.cells #[.string ⟨#[]⟩,.string ⟨#[113,117,111,116,101]⟩,.string ⟨#[104,111,108,100]⟩,.string ⟨#[98,111,111,107]⟩,.string ⟨#[99,111,110,102,105,114,109]⟩,.string ⟨#[97,109,101,110,100]⟩,.string ⟨#[99,97,110,99,101,108]⟩,.string ⟨#[116,114,97,110,115,102,101,114]⟩,.string ⟨#[101,120,112,105,114,101]⟩,.string ⟨#[109,97,110,105,102,101,115,116]⟩] 9)):=zr bZ _;have hn:=heap_alloc_new w (.cells #[.string ⟨#[]⟩,.string ⟨#[113,117,111,116,101]⟩,.string ⟨#[104,111,108,100]⟩,.string ⟨#[98,111,111,107]⟩,.string ⟨#[99,111,110,102,105,114,109]⟩,.string ⟨#[97,109,101,110,100]⟩,.string ⟨#[99,97,110,99,101,108]⟩,.string ⟨#[116,114,97,110,115,102,101,114]⟩,.string ⟨#[101,120,112,105,114,101]⟩,.string ⟨#[109,97,110,105,102,101,115,116]⟩] 9);have a:Hid (∀ k,k<10->(w.alloc (.cells #[.string ⟨#[]⟩,.string ⟨#[113,117,111,116,101]⟩,.string ⟨#[104,111,108,100]⟩,.string ⟨#[98,111,111,107]⟩,.string ⟨#[99,111,110,102,105,114,109]⟩,.string ⟨#[97,109,101,110,100]⟩,.string ⟨#[99,97,110,99,101,108]⟩,.string ⟨#[116,114,97,110,115,102,101,114]⟩,.string ⟨#[101,120,112,105,114,101]⟩,.string ⟨#[109,97,110,105,102,101,115,116]⟩] 9)).cell? ⟨w.heap.size,k,none⟩=some (.string (zP k))):=fun k hk=>by
  have c:k=0∨k=1∨k=2∨k=3∨k=4∨k=5∨k=6∨k=7∨k=8∨k=9:=by omega
  rcases c with rfl|rfl|rfl|rfl|rfl|rfl|rfl|rfl|rfl|rfl
  ·exact za hn 0 _ rfl
  ·exact za hn 1 _ rfl
  ·exact za hn 2 _ rfl
  ·exact za hn 3 _ rfl
  ·exact za hn 4 _ rfl
  ·exact za hn 5 _ rfl
  ·exact za hn 6 _ rfl
  ·exact za hn 7 _ rfl
  ·exact za hn 8 _ rfl
  ·exact za hn 9 _ rfl
 clear hn;go_enter Tryz.func46,Tryz.ntmps46;go_wp2;go_ret;exact⟨_,rfl,a,b⟩
structure XSt (w a:World)(b:Array Value)(T:ByteArray)(m:Nat):Prop where
 o:a.heap[w.heap.size]?=some (.cells b 27 (0,0))
 bel:Below w.heap.size w a
 sz:T.size<=2000*m
theorem XSt.more {w c:World}{a:Array Value}{T:ByteArray}{m b:Nat}(h:XSt w c a T m)(hm:m<=b):XSt w c a T b:=⟨h.o,h.bel,by have:=h.sz;omega⟩
theorem flagN {x:OpD}{k:Nat}(h:qn x)(hk:x.kind.toNat=k):decide (In x.kind 4 8)=qM k:=by
 have:=h.1.1;unfold In at this;rw[Bool.eq_iff_iff,decide_eq_true_eq];unfold qM In;rw[decide_eq_true_eq]
 omega
theorem flagO {x:OpD}{k:Nat}(h:qn x)(hk:x.kind.toNat=k):(x.own.toList == [])=!(qr k):=by
 have d:=h.1.1;have a:=h.1.2.1;unfold In at d;unfold qO at a;unfold qr
 by_cases c:x.kind=2∨x.kind=3∨x.kind=7
 ·rw[if_pos c] at a
  rw[decide_eq_true (by omega:k=2∨k=3∨k=7)]
  have b:=a.1;rw[show(!true)=false from rfl,beq_eq_false_iff_ne];intro e;have:x.own=⟨#[]⟩:=QU (by rw[e];simp[ByteArray.toList_eq])
  rw[this] at b;exact absurd b (by decide)
 ·rw[if_neg c] at a
  rw[decide_eq_false (by omega:¬ (k=2∨k=3∨k=7))]
  have:x.own=⟨#[]⟩:=by
   apply ByteArray.ext
   exact Array.eq_empty_of_size_eq_zero a
  rw[this];simp[ByteArray.toList_eq]
theorem flagL {x:OpD}{k:Nat}(h:qn x)(hk:x.kind.toNat=k):decide (0<x.lgn)=decide (0<qx k):=by
 have b:=h.1.1;have a:=h.1.2.2.2.1;unfold In at b;unfold qj at a;unfold qx;rw[Bool.eq_iff_iff,decide_eq_true_eq,decide_eq_true_eq]
 by_cases c:zR x.kind
 ·rw[if_pos c] at a
  unfold zR at c;rw[if_pos (by omega)]
  omega
 ·rw[if_neg c] at a
  unfold zR at c;rw[if_neg (by omega)]
  by_cases d:x.kind=9
  ·rw[if_pos d] at a
   rw[if_pos (by omega)]
   omega
  ·rw[if_neg d] at a
   rw[if_neg (by omega)]
   omega
theorem flagP {x:OpD}{k:Nat}(h:qn x)(a:x.kind.toNat=k):decide (zR x.kind)=qp k:=by
 rw[Bool.eq_iff_iff,decide_eq_true_eq];exact(zcw h a).symm
theorem flagU {x:OpD}{k:Nat}(h:qn x)(hk:x.kind.toNat=k):(x.kind == 2)=qs k:=by
 have a:=h.1.1;unfold In at a;unfold qs;rw[Bool.eq_iff_iff,decide_eq_true_eq,beq_iff_eq]
 omega
theorem flagW {x:OpD}{k:Nat}(h:qn x)(hk:x.kind.toNat=k):((x.kind == 6) || (x.kind == 8))=Qg k:=by
 have a:=h.1.1;unfold In at a;unfold Qg;rw[Bool.eq_iff_iff,decide_eq_true_eq,Bool.or_eq_true,beq_iff_eq,beq_iff_eq]
 omega
theorem l11Op_any (x:OpD)(c:Option Addr)(f:Nat)(w:World)(hx:qn x)(a6:IntsAt w c x.lgn x.lg) :
  Calls Tryz.prog 20 #[.agg #[int i64 x.kind,.string x.own,int i64 x.name,.slice c x.lgn f,int i64 x.pe,int i64 x.len,int i64 x.hei,int i64 x.cl,.bool x.all,int i64 x.be,int i64 x.unt,int i64 x.now]] w fun e w'=>e=.returned (.string (opT x))/\Below w.heap.size w w':=by
 have s:=hI hx;have a7:=hI a6;obtain⟨k,hk⟩:∃ k:Nat,x.kind=(k:Int):=⟨x.kind.toNat,by have:=hx.1.1.1;omega⟩
 have a:Hid (x.kind.toNat=k):=by show x.kind.toNat=k;omega
 have a2:=hI hk;have b7:1<=k/\k<=9:=by have:=hx.1.1;unfold In at this;omega
 have S:Below w.heap.size w (w.alloc (.cells #[int i64 x.kind,.string x.own,int i64 x.name,.slice c x.lgn f,int i64 x.pe,int i64 x.len,int i64 x.hei,int i64 x.cl,.bool x.all,int i64 x.be,int i64 x.unt,int i64 x.now] 27)):=zr bZ _;have b0:=heap_alloc_new w (.cells #[int i64 x.kind,.string x.own,int i64 x.name,.slice c x.lgn f,int i64 x.pe,int i64 x.len,int i64 x.hei,int i64 x.cl,.bool x.all,int i64 x.be,int i64 x.unt,int i64 x.now] 27);clear hx a6 hk;go_enter Tryz.func20,Tryz.ntmps20;go_upto_region 1 with fail;generalize w.alloc (.cells #[int i64 x.kind,.string x.own,int i64 x.name,.slice c x.lgn f,int i64 x.pe,int i64 x.len,int i64 x.hei,int i64 x.cl,.bool x.all,int i64 x.be,int i64 x.unt,int i64 x.now] 27)=W at S b0 ⊢;have C:W.cell? ⟨w.heap.size,0,none⟩=some (int i64 (k:Int)):=by rw[← a2.out];exact za b0 0 _ rfl
 have b5:(0:Int)<=(k:Int):=by omega
 have b6:(k:Int)<10:=by omega
 go_cut [3] (fun v u=>v=.string (zP k)/\Hid (Below W.heap.size W u))
 case first =>
  go_region_with (first
   | (go_at_call 46;refine(zgp _).mono ?_;rintro e w2 ⟨g,rfl,HW,a5⟩;have b:Below W.heap.size W w2:=(by first | exact a5 | exact zj bZ.drew a5);have y2:w2.cell? ⟨w.heap.size,0,none⟩=some (int i64 (k:Int)):=(by rw[← a2.out];exact za (zc b0 b) 0 _ rfl);have z2:=HW.out k (by omega)))
  all_goals
   go_wp2;go_meet;exact⟨rfl,b⟩
 case rest =>
 obtain⟨rfl,HW⟩:=hcut;have l:Hid (XSt w wc #[int i64 x.kind,.string x.own,int i64 x.name,.slice c x.lgn f,int i64 x.pe,int i64 x.len,int i64 x.hei,int i64 x.cl,.bool x.all,int i64 x.be,int i64 x.unt,int i64 x.now] (qD spT (zcJ x)) 1):=⟨zc b0 HW.out,zj S HW.out,by unfold zcJ;rw[ZH];have:=zet x.kind.toNat;omega⟩
 have e0:zP k=qD spT (zcJ x):=by unfold zcJ;rw[ZH,a.out]
 rw[e0];clear e0 C b5 b6 b0 S HW;clear W;obtain⟨T0,R⟩:∃ T,T=qD spT (zcJ x):=⟨_,rfl⟩;have K:=hI R;rw[← R] at l ⊢;clear R;obtain⟨q1,U⟩:∃ q,q=qM k:=⟨_,rfl⟩;have H:=hI U.symm;obtain⟨B,i⟩:∃ z,z=wc:=⟨_,rfl⟩;subst i;have C:=za l.out.o 0 _ rfl;go_wp2_with fail;have Q:=zS x.kind B;rw[flagN s.out a.out,← U] at Q;clear U;refine Q.mono ?_;clear Q;rintro e w1 ⟨rfl,t⟩;have t:=t.symm;subst t;clear C;go_upto_if 11 with fail;go_cut [3] (fun v u=>∃ T,v=.string T/\Hid (T=qD spT (zbV x)/\XSt w u #[int i64 x.kind,.string x.own,int i64 x.name,.slice c x.lgn f,int i64 x.pe,int i64 x.len,int i64 x.hei,int i64 x.cl,.bool x.all,int i64 x.be,int i64 x.unt,int i64 x.now] T 2))
 case first =>
  cases q1 with
  | false =>
   go_wp2;go_meet;exact⟨_,rfl,by rw[K.out];unfold zbV;exact(zat (by rw[a.out];exact H.out)).symm,l.out.more (by omega)⟩
  | true =>
   have y:Hid (T0++(⟨#[32]⟩++(qf x.name))=qD spT (zbV x)):=by
    show T0++(⟨#[32]⟩++(qf x.name))=qD spT (zbV x)
    rw[K.out];unfold zbV;exact(zas (opP0_ne x) (by rw[a.out];exact H.out)).symm
   have z2:=za l.out.o 2 _ rfl;have hr:=rng1 s.out a.out H.out;have sn:=qh (n:=x.name) (by omega) (by omega)
   have s0:=l.out.sz;have r1:=qk ⟨#[32]⟩ (qf x.name) (by show 1<=_;omega) (by omega)
   have s1:((⟨#[32]⟩:ByteArray)++(qf x.name)).size<=1001:=by rw[ByteArray.size_append];show 1+_<=_;omega
   have r2:=qk T0 (⟨#[32]⟩++(qf x.name)) (by omega) (by omega)
   have A:(T0++(⟨#[32]⟩++(qf x.name))).size<=2000*2:=by rw[ByteArray.size_append];omega
   go_wp2_with fail;refine(Za (n:=x.name) (by omega) (by omega) _).mono ?_
   rintro e w3 ⟨rfl,b⟩;go_wp2;go_meet;exact⟨_,rfl,y.out,⟨zc l.out.o b,zj l.out.bel b,A⟩⟩
 case rest =>
 obtain⟨T1,rfl,h⟩:=hcut;have L:=hI h.out.1;have o:=hI h.out.2;clear h l K;obtain⟨q2,V⟩:∃ q,q=qr k:=⟨_,rfl⟩;have a3:=hI V.symm;obtain⟨B,i⟩:∃ z,z=wc:=⟨_,rfl⟩;subst i;have y1:=za o.out.o 1 _ rfl;have j:=flagO s.out a.out;rw[← V] at j;clear V;go_upto_if 20 with fail;go_cut [3] (fun v u=>∃ T,v=.string T/\Hid (T=qD spT (zcf x)/\XSt w u #[int i64 x.kind,.string x.own,int i64 x.name,.slice c x.lgn f,int i64 x.pe,int i64 x.len,int i64 x.hei,int i64 x.cl,.bool x.all,int i64 x.be,int i64 x.unt,int i64 x.now] T 3))
 case first =>
  clear j y1
  cases q2 with
  | false =>
   go_wp2;go_meet;exact⟨_,rfl,by rw[L.out];unfold zcf;exact(zat (by rw[a.out];exact a3.out)).symm,o.out.more (by omega)⟩
  | true =>
   have y:Hid (T1++(⟨#[32]⟩++x.own)=qD spT (zcf x)):=by
    show T1++(⟨#[32]⟩++x.own)=qD spT (zcf x)
    rw[L.out];unfold zcf;exact(zas (opP1_ne x) (by rw[a.out];exact a3.out)).symm
   have z1:=za o.out.o 1 _ rfl;have sn:x.own.size<=1000:=by
    have h1:=s.out.1.2.1;unfold qO at h1
    split at h1
    ·have:=h1.2.1;omega
    ·omega
   have s0:=o.out.sz;have r1:=qk ⟨#[32]⟩ x.own (by show 1<=_;omega) (by omega)
   have s1:((⟨#[32]⟩:ByteArray)++x.own).size<=1001:=by rw[ByteArray.size_append];show 1+_<=_;omega
   have r2:=qk T1 (⟨#[32]⟩++x.own) (by omega) (by omega)
   have A:(T1++(⟨#[32]⟩++x.own)).size<=2000*3:=by rw[ByteArray.size_append];omega
   have b:Below B.heap.size B B:=bZ;go_wp2;go_meet;exact⟨_,rfl,y.out,⟨zc o.out.o b,zj o.out.bel b,A⟩⟩
 case rest =>
 obtain⟨T2,rfl,h⟩:=hcut;have M:=hI h.out.1;have m:=hI h.out.2;clear h o L j y1;obtain⟨q3,X⟩:∃ q,q=decide (0<qx k):=⟨_,rfl⟩;have D:=hI X.symm;obtain⟨B,i⟩:∃ z,z=wc:=⟨_,rfl⟩;subst i;have y3:=za m.out.o 3 _ rfl;have j:=flagL s.out a.out;rw[← X] at j;clear X;go_upto_if 29 with fail;go_cut [3] (fun v u=>∃ T,v=.string T/\Hid (T=qD spT (zbW x)/\XSt w u #[int i64 x.kind,.string x.own,int i64 x.name,.slice c x.lgn f,int i64 x.pe,int i64 x.len,int i64 x.hei,int i64 x.cl,.bool x.all,int i64 x.be,int i64 x.unt,int i64 x.now] T 4))
 case first =>
  clear j y3
  cases q3 with
  | false =>
   go_wp2;go_meet;exact⟨_,rfl,by rw[M.out];unfold zbW;exact(zat (by rw[a.out];exact D.out)).symm,m.out.more (by omega)⟩
  | true =>
   have y:Hid (T2++(⟨#[32]⟩++(ZB x.lgn x.lg))=qD spT (zbW x)):=by
    show T2++(⟨#[32]⟩++(ZB x.lgn x.lg))=qD spT (zbW x)
    rw[M.out];unfold zbW;exact(zas (opP2_ne x) (by rw[a.out];exact D.out)).symm
   have z3:=za m.out.o 3 _ rfl;have hr:=rng3 s.out a.out D.out;have sn:(ZB x.lgn x.lg).size<=1000:=ziw s.out a.out D.out;have s0:=m.out.sz;have r1:=qk ⟨#[32]⟩ (ZB x.lgn x.lg) (by show 1<=_;omega) (by omega)
   have s1:((⟨#[32]⟩:ByteArray)++(ZB x.lgn x.lg)).size<=1001:=by rw[ByteArray.size_append];show 1+_<=_;omega
   have r2:=qk T2 (⟨#[32]⟩++(ZB x.lgn x.lg)) (by omega) (by omega)
   have A:(T2++(⟨#[32]⟩++(ZB x.lgn x.lg))).size<=2000*4:=by rw[ByteArray.size_append];omega
   go_wp2_with fail;refine(zhn c x.lgn f x.lg _ hr.2 (a7.out.below m.out.bel) s.out.2).mono ?_;rintro e w3 ⟨rfl,b⟩;go_wp2;go_meet;exact⟨_,rfl,y.out,⟨zc m.out.o b,zj m.out.bel b,A⟩⟩
 case rest =>
 obtain⟨T3,rfl,h⟩:=hcut;have N:=hI h.out.1;have d:=hI h.out.2;clear h m M j y3;obtain⟨q4,Y⟩:∃ q,q=qp k:=⟨_,rfl⟩;have F:=hI Y.symm;obtain⟨B,i⟩:∃ z,z=wc:=⟨_,rfl⟩;subst i;have C:=za d.out.o 0 _ rfl;go_wp2_with fail;have Q:=zY x.kind B;rw[flagP s.out a.out,← Y] at Q;clear Y;refine Q.mono ?_;clear Q;rintro e w1 ⟨rfl,t⟩;have t:=t.symm;subst t;clear C;go_upto_if 38 with fail;go_cut [3] (fun v u=>∃ T,v=.string T/\Hid (T=qD spT (zbX x)/\XSt w u #[int i64 x.kind,.string x.own,int i64 x.name,.slice c x.lgn f,int i64 x.pe,int i64 x.len,int i64 x.hei,int i64 x.cl,.bool x.all,int i64 x.be,int i64 x.unt,int i64 x.now] T 5))
 case first =>
  cases q4 with
  | false =>
   go_wp2;go_meet;exact⟨_,rfl,by rw[N.out];unfold zbX;exact(zat (by rw[a.out];exact F.out)).symm,d.out.more (by omega)⟩
  | true =>
   have y:Hid (T3++(⟨#[32]⟩++(qC x.p))=qD spT (zbX x)):=by
    show T3++(⟨#[32]⟩++(qC x.p))=qD spT (zbX x)
    rw[N.out];unfold zbX;exact(zas (opP3_ne x) (by rw[a.out];exact F.out)).symm
   have z4:=za d.out.o 4 _ rfl;have z5:=za d.out.o 5 _ rfl;have z6:=za d.out.o 6 _ rfl;have z7:=za d.out.o 7 _ rfl;have z8:=za d.out.o 8 _ rfl;have z9:=za d.out.o 9 _ rfl;have hr:=rng4 s.out a.out F.out;have sn:(qC x.p).size<=1000:=zhp s.out a.out F.out;have s0:=d.out.sz;have r1:=qk ⟨#[32]⟩ (qC x.p) (by show 1<=_;omega) (by omega)
   have s1:((⟨#[32]⟩:ByteArray)++(qC x.p)).size<=1001:=by rw[ByteArray.size_append];show 1+_<=_;omega
   have r2:=qk T3 (⟨#[32]⟩++(qC x.p)) (by omega) (by omega)
   have A:(T3++(⟨#[32]⟩++(qC x.p))).size<=2000*5:=by rw[ByteArray.size_append];omega
   go_wp2_with fail;refine(zgm x.p _ hr).mono ?_;rintro e w3 ⟨rfl,b⟩;go_wp2;go_meet;exact⟨_,rfl,y.out,⟨zc d.out.o b,zj d.out.bel b,A⟩⟩
 case rest =>
 obtain⟨T4,rfl,h⟩:=hcut;have O:=hI h.out.1;have p:=hI h.out.2;clear h d N;obtain⟨q5,Z⟩:∃ q,q=qs k:=⟨_,rfl⟩;have I:=hI Z.symm;obtain⟨B,i⟩:∃ z,z=wc:=⟨_,rfl⟩;subst i;have C:=za p.out.o 0 _ rfl;have j:=flagU s.out a.out;rw[← Z] at j;clear Z;go_upto_if 47 with fail;go_cut [3] (fun v u=>∃ T,v=.string T/\Hid (T=qD spT (zcg x)/\XSt w u #[int i64 x.kind,.string x.own,int i64 x.name,.slice c x.lgn f,int i64 x.pe,int i64 x.len,int i64 x.hei,int i64 x.cl,.bool x.all,int i64 x.be,int i64 x.unt,int i64 x.now] T 6))
 case first =>
  clear j C
  cases q5 with
  | false =>
   go_wp2;go_meet;exact⟨_,rfl,by rw[O.out];unfold zcg;exact(zat (by rw[a.out];exact I.out)).symm,p.out.more (by omega)⟩
  | true =>
   have y:Hid (T4++(⟨#[32]⟩++(qf x.unt))=qD spT (zcg x)):=by
    show T4++(⟨#[32]⟩++(qf x.unt))=qD spT (zcg x)
    rw[O.out];unfold zcg;exact(zas (opP4_ne x) (by rw[a.out];exact I.out)).symm
   have b8:=za p.out.o 10 _ rfl;have hr:=rng5 s.out a.out I.out;have sn:=qh (n:=x.unt) (by omega) (by omega)
   have s0:=p.out.sz;have r1:=qk ⟨#[32]⟩ (qf x.unt) (by show 1<=_;omega) (by omega)
   have s1:((⟨#[32]⟩:ByteArray)++(qf x.unt)).size<=1001:=by rw[ByteArray.size_append];show 1+_<=_;omega
   have r2:=qk T4 (⟨#[32]⟩++(qf x.unt)) (by omega) (by omega)
   have A:(T4++(⟨#[32]⟩++(qf x.unt))).size<=2000*6:=by rw[ByteArray.size_append];omega
   go_wp2_with fail;refine(Za (n:=x.unt) (by omega) (by omega) _).mono ?_
   rintro e w3 ⟨rfl,b⟩;go_wp2;go_meet;exact⟨_,rfl,y.out,⟨zc p.out.o b,zj p.out.bel b,A⟩⟩
 case rest =>
 obtain⟨T5,rfl,h⟩:=hcut;have P:=hI h.out.1;have r:=hI h.out.2;clear h p O j C;obtain⟨G,a0⟩:∃ q,q=Qg k:=⟨_,rfl⟩;have J:=hI a0.symm;obtain⟨B,i⟩:∃ z,z=wc:=⟨_,rfl⟩;subst i;have C:=za r.out.o 0 _ rfl;have j:=flagW s.out a.out;rw[← a0] at j;clear a0;go_upto_region 12 with fail;go_cut [61] (fun v u=>v=.bool G/\u=B)
 case first =>
  by_cases h6:x.kind=6
  ·have e6:(x.kind == 6)=true:=by rw[beq_iff_eq];exact h6
   have E:Hid (true=G):=by show true=G;rw[← j,e6];rfl
   clear j h6;go_wp2;go_meet;exact⟨congrArg Value.bool E.out,rfl⟩
  ·have e6:(x.kind == 6)=false:=by rw[beq_eq_false_iff_ne];exact h6
   by_cases h8:x.kind=8
   ·have e8:(x.kind == 8)=true:=by rw[beq_iff_eq];exact h8
    have E:Hid (true=G):=by show true=G;rw[← j,e6,e8];rfl
    clear j h6 h8;go_wp2;go_meet;exact⟨congrArg Value.bool E.out,rfl⟩
   ·have e8:(x.kind == 8)=false:=by rw[beq_eq_false_iff_ne];exact h8
    have E:Hid (false=G):=by show false=G;rw[← j,e6,e8];rfl
    clear j h6 h8;go_wp2;go_meet;exact⟨congrArg Value.bool E.out,rfl⟩
 case rest =>
 obtain⟨rfl,a1⟩:=hcut;have a1:=a1.symm;subst a1;clear C j;go_upto_if 61 with fail;go_cut [3] (fun v u=>∃ T,v=.string T/\Hid (T=qD spT (zcv x)/\XSt w u #[int i64 x.kind,.string x.own,int i64 x.name,.slice c x.lgn f,int i64 x.pe,int i64 x.len,int i64 x.hei,int i64 x.cl,.bool x.all,int i64 x.be,int i64 x.unt,int i64 x.now] T 7))
 case first =>
  cases G with
  | false =>
   go_wp2;go_meet;exact⟨_,rfl,by rw[P.out];unfold zcv;exact(zat (by rw[a.out];exact J.out)).symm,r.out.more (by omega)⟩
  | true =>
   have y:Hid (T5++(⟨#[32]⟩++(qf x.now))=qD spT (zcv x)):=by
    show T5++(⟨#[32]⟩++(qf x.now))=qD spT (zcv x)
    rw[P.out];unfold zcv;exact(zas (opP5_ne x) (by rw[a.out];exact J.out)).symm
   have b9:=za r.out.o 11 _ rfl;have hr:=rng6 s.out a.out J.out;have sn:=qh (n:=x.now) (by omega) (by omega)
   have s0:=r.out.sz;have r1:=qk ⟨#[32]⟩ (qf x.now) (by show 1<=_;omega) (by omega)
   have s1:((⟨#[32]⟩:ByteArray)++(qf x.now)).size<=1001:=by rw[ByteArray.size_append];show 1+_<=_;omega
   have r2:=qk T5 (⟨#[32]⟩++(qf x.now)) (by omega) (by omega)
   have A:(T5++(⟨#[32]⟩++(qf x.now))).size<=2000*7:=by rw[ByteArray.size_append];omega
   go_wp2_with fail;refine(Za (n:=x.now) (by omega) (by omega) _).mono ?_
   rintro e w3 ⟨rfl,b⟩;go_wp2;go_meet;exact⟨_,rfl,y.out,⟨zc r.out.o b,zj r.out.bel b,A⟩⟩
 case rest =>
 obtain⟨T6,rfl,h⟩:=hcut;have a9:=hI h.out.1;have a8:=hI h.out.2;clear h r P;go_wp2;go_ret;exact⟨by rw[a9.out];rfl,a8.out.bel⟩
end Go.Proofs.YtfallpinmhbemaaGreatDoor
namespace Go.Proofs
open Go.Value (int)
open Go.IntKind (i64)
open Go.Shelf
shelf_lay LaysM.n316 Nm 316 at Tryz as Tryz.lays316
end Go.Proofs
namespace Go.Proofs.YtfallpinmhbemaaGreatDoor
open Go.Value (int)
open Go.IntKind (i64)
open Go.RowKit
def WSt (w:World)(b:Nat)(l:List ByteArray):Prop :=
 ∃ (a:Option Addr) (c:Nat),w.heap[b]?=some (.cells #[.slice a l.length c] 94 (0,0))/\l.length<=c/\c<=maxLen /\
  ∀ j x,l[j]?=some x->∃ g off cur,a=some ⟨g,off,none⟩/\w.cell? ⟨g,off+j,none⟩=some (.string x)/\w.heap[g]?=some (.cells cur 9 (0,0))
theorem WSt.kept {w w':World}{b:Nat}{l:List ByteArray}{S:Nat->Prop}(h:WSt w b l)(a:zA w w' S)(o:¬ S b)(d:∀ g cur,w.heap[g]?=some (.cells cur 9 (0,0))->¬ S g):WSt w' b l:=by
 obtain⟨f,c,i,k,m,n⟩:=h;refine⟨f,c,a.blk i o,k,m,fun j x p=>?_⟩
 obtain⟨g,off,cur,e,k1,k2⟩:=n j x p;refine⟨g,off,cur,e,?_,a.blk k2 (d g cur k2)⟩;rw[← k1];exact World.cell?_of_block ((a.blk k2 (d g cur k2)).trans k2.symm)
theorem WSt.below {w w':World}{b:Nat}{l:List ByteArray}(h:WSt w b l)(a:Below w.heap.size w w'):WSt w' b l:=h.kept (zA.of_below (S:=fun _=>False) a) (fun h=>h) (fun _ _ _ h=>h)
theorem zfs {w w':World}{S:Nat->Prop}(h:PowAt w)(d:zA w w' S)(c:¬ S 4):PowAt w':=by
 unfold PowAt Lib.TabIs World.var? at *;rw[Tryz.gPow] at h ⊢;simp only[Option.bind_some] at h ⊢;have b:4<w.heap.size:=by
  rcases Nat.lt_or_ge 4 w.heap.size with a|a
  ·exact a
  ·rw[Array.getElem?_eq_none a] at h;simp at h
 rw[d.block _ b c];exact h
theorem zdB (s:ByteArray)(w:World)(D:s.size<=1048576) :
  Calls Tryz.prog 22 #[.string s] w fun e w'=>∃ b l,e=.returned (.pointer (some ⟨b,0,none⟩))/\w.heap.size<=b/\Hid (WSt w' b l/\Q2 32 s l/\l.length<=s.size+1)/\Below w.heap.size w w':=by
 go_enter Tryz.func22,Tryz.ntmps22;go_wp2_with fail;refine(zaO s 32 _ (by decide) D).mono ?_
 rintro e a ⟨v,l,rfl,f,t,r⟩;obtain⟨i,c,rfl,A,C,hn⟩:=zt f;have q:WSt (a.alloc (.cells #[.slice i l.length c] 94)) a.heap.size l:=by
  refine⟨i,c,heap_alloc_new a _,A,C,fun j x o=>?_⟩
  have hj:j<l.length:=by
   rcases Nat.lt_or_ge j l.length with h|h
   ·exact h
   ·rw[List.getElem?_eq_none h] at o;cases o
  obtain⟨g,rfl,_,B⟩:=qw f (by omega)
  have d:a.cell? ⟨g,j,none⟩=some (.string x):=by rw[World.ownsRow.cellAt f j (by omega),List.getElem?_map,o];rfl
  rcases f.2 with⟨z,_⟩|⟨g',p,cur,u,_,m,_⟩
  ·cases z
  ·simp only[Value.slice.injEq,Option.some.injEq,Addr.mk.injEq] at u
   obtain⟨⟨rfl,_,_⟩,_,rfl⟩:=u;exact⟨g,0,cur,rfl,by rw[Nat.zero_add];exact((zr (Below.refl _ a) _).cell B).trans d,ze m _⟩
 have y:Hid (WSt (a.alloc (.cells #[.slice i l.length c] 94)) a.heap.size l/\Q2 32 s l/\l.length<=s.size+1):=⟨q,t.out⟩;have k:Below w.heap.size w (a.alloc (.cells #[.slice i l.length c] 94)):=zr r _;have n:=r.size;clear q t f;go_wp2;go_ret;exact⟨_,l,rfl,n,y,k⟩
set_option maxHeartbeats 800000 in
theorem zbm (b:Nat)(l:List ByteArray)(w:World)(h:WSt w b l) :
  Calls Tryz.prog 51 #[.pointer (some ⟨b,0,none⟩)] w fun e w'=>e=.returned (.string (l.headD ⟨#[]⟩))/\Hid (WSt w' b l.tail)/\zA w w' (fun k=>k=b):=by
 cases l with
 | nil =>
  have u:=hI h;obtain⟨G,c,f,_⟩:=h;have C:=za f 0 _ rfl;simp only[List.length_nil] at C;go_enter Tryz.func51,Tryz.ntmps51;go_wp2;go_ret;exact⟨rfl,u,zA.refl _ _⟩
 | cons x r =>
  have u:=hI h;obtain⟨G,c,f,H,I,v⟩:=h;obtain⟨g,off,cur,rfl,k1,k2⟩:=v 0 x rfl;have C:=za f 0 _ rfl;have f0:=zg f 0;rw[List.length_cons] at C H;rw[Nat.add_zero] at k1;have n:g≠b:=fun e=>by
   rw[e,f] at k2;simp only[Option.some.injEq,Obj.cells.injEq] at k2;exact absurd k2.2.1 (by decide)
  have F:=hI v;have D:=hI f;have d0:(((r.length+1:Nat):Int) == 0)=false:=by rw[beq_eq_false_iff_ne];omega
  have d1:(((r.length:Int)+1) == 0)=false:=by rw[beq_eq_false_iff_ne];omega
  have i1:(1:Int)<=(r.length:Int)+1:=by omega
  clear v f I;have p:∀ (q:Option Addr) (s:Nat),s=c - 1->(0<r.length->q=some ⟨g,off+1,none⟩)->WSt (w.setCell ⟨b,0,none⟩ (.slice q r.length s)) b r:=fun q s J z=>by
   refine⟨q,s,zy D.out 0 _,by omega,by have:=u.out;obtain⟨_,c2,t,_,q3,_⟩:=this;rw[D.out] at t;simp at t;omega,fun j y A=>?_⟩
   have hj:j<r.length:=by
    rcases Nat.lt_or_ge j r.length with h|h
    ·exact h
    ·rw[List.getElem?_eq_none h] at A;cases A
   obtain⟨g',E,m,e,t,B⟩:=F.out (j+1) y (by simpa using A)
   simp only[Option.some.injEq,Addr.mk.injEq,and_true] at e;obtain⟨rfl,rfl⟩:=e;refine⟨g,off+1,m,z (by omega),?_,zD B 0 _ n⟩
   rw[show off+1+j=off+(j+1) by omega,← t]
   exact World.cell?_of_block ((zD B 0 _ n).trans B.symm)
  have d:=hI p;clear p
  by_cases hc:c=1
  ·subst hc
   have o:r.length=0:=by omega
   go_enter Tryz.func51,Tryz.ntmps51;go_wp2;go_ret;refine⟨rfl,?_,(zA.refl w (fun k=>k=b)).set (a:=⟨b,0,none⟩) rfl _⟩
   show WSt _ b r
   have i:=d.out (some ⟨g,off,none⟩) 0 rfl (fun h=>by omega)
   rw[o] at i
   first|exact i|(simpa [o] using i)
  ·have K:(c=1)=False:=eq_false hc
   go_enter Tryz.func51,Tryz.ntmps51;go_wp2;go_ret;refine⟨rfl,?_,(zA.refl w (fun k=>k=b)).set (a:=⟨b,0,none⟩) rfl _⟩
   show WSt _ b r
   exact d.out _ _ (by first|rfl|omega) (fun h=>by first|rfl|simp)
set_option maxRecDepth 100000 in
theorem name_any (b:Nat)(l:List ByteArray)(w:World)(h:WSt w b l)(hl:(l.headD ⟨#[]⟩).size<=281474976710656) :
  Calls Tryz.prog 53 #[.pointer (some ⟨b,0,none⟩)] w fun e w'=>e=.returned (.string (l.headD ⟨#[]⟩))/\Hid (WSt w' b l.tail)/\zA w w' (fun k=>k=b):=by
 generalize hx:l.headD ⟨#[]⟩=x at hl ⊢;have g:∀ W:World,Calls Tryz.prog 91 #[.string x] W fun e w'=>e=.returned (.string x)/\Below W.heap.size W w':=fun W=>by
  go_enter Tryz.func91,Tryz.ntmps91;go_wp2_with fail;refine(Any.stringslite_Clone Tryz.lays316 x _ hl).mono ?_;rintro e m ⟨rfl,a⟩;go_wp2;go_ret;exact⟨rfl,a⟩
 have i:=hI g;have d:=zbm b l w h;rw[hx] at d;clear g hx h;go_enter Tryz.func53,Tryz.ntmps53;go_wp2_with fail;refine d.mono ?_;clear d;rintro e m ⟨rfl,f,j⟩;go_wp2_with fail;refine(i.out _).mono ?_;rintro e w3 ⟨rfl,a⟩;have c:=hI (f.out.below a);clear f;go_wp2;go_ret;exact⟨rfl,c,j.trans (zA.of_below a)⟩
set_option maxRecDepth 100000 in
theorem ziz (b:Nat)(l:List ByteArray)(w:World)(h:WSt w b l)(i:PowAt w)(o:4≠b) :
  Calls Tryz.prog 52 #[.pointer (some ⟨b,0,none⟩)] w fun e w'=>e=.returned (int i64 (zI (l.headD ⟨#[]⟩)))/\Hid (WSt w' b l.tail)/\zA w w' (fun k=>k=b):=by
 generalize hx:l.headD ⟨#[]⟩=x;have n:=hI i;have f:=zbm b l w h;rw[hx] at f;clear h i hx;go_enter Tryz.func52,Tryz.ntmps52;go_wp2_with fail;refine f.mono ?_;clear f;rintro e p ⟨rfl,g,m⟩;have a:PowAt p:=zfs (S:=fun k=>k=b) n.out m o
 have c:=hI a;clear a;go_wp2_with fail;refine(ZO x _ c.out).mono ?_;rintro e w3 ⟨rfl,j⟩;have d:=hI (g.out.below j);clear g;go_wp2;go_ret;exact⟨rfl,d,m.trans (zA.of_below j)⟩
end Go.Proofs.YtfallpinmhbemaaGreatDoor
namespace Go.Proofs.YtfallpinmhbemaaGreatDoor
open Go.RowKit
open Go.Value (int)
open Go.IntKind (i64)
set_option maxHeartbeats 64000000
set_option maxRecDepth 1000000
end Go.Proofs.YtfallpinmhbemaaGreatDoor
namespace Go.Proofs
open Go.Value (int)
open Go.IntKind (i64)
open Go.Shelf
shelf_lay Lays.n219 Nm 219 at Tryz as Tryz.lays219
end Go.Proofs
namespace Go.Proofs.YtfallpinmhbemaaGreatDoor
open Go.Value (int)
open Go.IntKind (i64)
open Go.RowKit
def zbw (p:UInt8)(s:ByteArray):Bool:=decide (0<=Lib.indexByte s.data.toList p)
def Z4 (p:UInt8)(s:ByteArray):ByteArray:=if zbw p s=true then s.extract 0 (Lib.indexByte s.data.toList p).toNat else s
def Z5 (p:UInt8)(s:ByteArray):ByteArray:=if zbw p s=true then s.extract ((Lib.indexByte s.data.toList p).toNat+1) s.size else ⟨#[]⟩
theorem zhP {p:UInt8}{s:ByteArray}{o:Nat}(h:Lib.indexByte s.data.toList p=o):o<s.size:=by
 have b:=(Lib.indexByte_some h).1
 rcases Nat.lt_or_ge o s.data.toList.length with a|a
 ·rwa [Array.length_toList] at a
 ·rw[List.getElem?_eq_none a] at b;cases b
theorem cut_is (p:UInt8)(s:ByteArray):zgv p s (Z4 p s) (Z5 p s) (zbw p s):=by
 have hl:s.data.toList.length=s.size:=Array.length_toList
 by_cases h:0<=Lib.indexByte s.data.toList p
 ·obtain⟨o,d⟩:=Int.eq_ofNat_of_zero_le h
  have a:zbw p s=true:=decide_eq_true h;have j:=zhP d;obtain⟨e,f⟩:=Lib.indexByte_some d;unfold zgv Z4 Z5;rw[if_pos a,if_pos a,d,Int.toNat_natCast,zdc,zdc];refine⟨?_,.inl ⟨a,?_⟩⟩
  ·intro c
   obtain⟨i,b⟩:=List.mem_iff_getElem?.1 c;rw[List.getElem?_take] at b
   split at b
   ·rename_i hlt2
    simp at b hlt2;exact f i hlt2 (by simpa using b)
   ·cases b
  ·rw[Nat.sub_zero,List.drop_zero,List.take_of_length_le (l:=List.drop (o+1) s.data.toList) (by rw[List.length_drop];omega)]
   have g:s.data.toList.drop o=p :: s.data.toList.drop (o+1):=by
    rw[List.drop_eq_getElem_cons (by omega)]
    rw[List.getElem?_eq_getElem (by omega)] at e
    congr 1
    simpa using e
   rw[← g,List.take_append_drop]
 ·have a:zbw p s=false:=decide_eq_false h
  have hn:Lib.indexByte s.data.toList p=-1:=by have:=Lib.indexByte_ge s.data.toList p;omega
  unfold zgv Z4 Z5;rw[if_neg (by rw[a];decide),if_neg (by rw[a];decide)]
  refine⟨fun c=>?_,.inr ⟨a,rfl,rfl⟩⟩
  obtain⟨i,b⟩:=List.mem_iff_getElem?.1 c;exact Lib.indexByte_none hn i b
theorem zhQ (p:UInt8)(s:ByteArray):(Z4 p s).size<=s.size/\(Z5 p s).size<=s.size:=by
 unfold Z4 Z5
 constructor
 ·split
  ·rw[ByteArray.size_extract];omega
  ·exact Nat.le_refl _
 ·split
  ·rw[ByteArray.size_extract];omega
  ·exact Nat.zero_le _
set_option maxHeartbeats 800000 in
set_option maxRecDepth 100000 in
theorem zhv (s:ByteArray)(p:UInt8)(w:World)(hs:s.size<=1000000000000) :
  Calls Tryz.prog 109 #[.string s,.string ⟨#[p]⟩] w fun e w'=>e=.returned (.tuple #[.string (Z4 p s),.string (Z5 p s),.bool (zbw p s)])/\Below w.heap.size w w':=by
 have f:=Lib.indexByte_ge s.data.toList p;have h1:(⟨#[p]⟩:ByteArray).size=1:=rfl
 by_cases h:0<=Lib.indexByte s.data.toList p
 ·obtain⟨o,g⟩:=Int.eq_ofNat_of_zero_le h
  have b:zbw p s=true:=decide_eq_true h;have i:=zhP g;have c:Hid (Z4 p s=s.extract 0 o/\Z5 p s=s.extract (o+1) s.size/\zbw p s=true):=by
   refine⟨?_,?_,b⟩
   ·unfold Z4;rw[if_pos b,g,Int.toNat_natCast]
   ·unfold Z5;rw[if_pos b,g,Int.toNat_natCast]
  have d:=Any.stringslite_Index_one Tryz.lays219 s p w;rw[g] at d;have j:(0:Int)<=(o:Int):=by omega
  have i2:(o:Int)<=(s.size:Int):=by omega
  have i3:(o:Int)+1<=(s.size:Int):=by omega
  have i4:(0:Int)<=(o:Int)+1:=by omega
  have hw:IntKind.i64.wrap ((o:Int)+1)=(o:Int)+1:=by rw[IntKind.wrap_i64];omega
  have ht:((o:Int)+1).toNat=o+1:=by omega
  have dg:decide ((0:Int)<=(o:Int))=true:=decide_eq_true j;clear h b g f;go_enter Tryz.func109,Tryz.ntmps109;go_wp2_with fail;refine d.mono ?_;clear d;rintro e k ⟨rfl,a⟩;have a:=a.symm;subst a;go_upto_region 3 with fail;go_quiet (fail);go_wp2;exact bodyPost_ret (v:=.tuple #[.string (s.extract 0 o),.string (s.extract (o+1) s.size),.bool true]) (by simp[results,Tryz.results109,go_sem]) rfl ⟨by rw[c.out.1,c.out.2.1,c.out.2.2],dN bZ _⟩
 ·have hn:Lib.indexByte s.data.toList p=-1:=by omega
  have b:zbw p s=false:=decide_eq_false h;have c:Hid (Z4 p s=s/\Z5 p s=⟨#[]⟩/\zbw p s=false):=by
   refine⟨?_,?_,b⟩
   ·unfold Z4;rw[if_neg (by rw[b];decide)]
   ·unfold Z5;rw[if_neg (by rw[b];decide)]
  have d:=Any.stringslite_Index_one Tryz.lays219 s p w;rw[hn] at d;clear h b hn f;go_enter Tryz.func109,Tryz.ntmps109;go_wp2_with fail;refine d.mono ?_;clear d;rintro e k ⟨rfl,a⟩;have a:=a.symm;subst a;go_wp2;exact bodyPost_ret (v:=.tuple #[.string s,.string ⟨#[]⟩,.bool false]) (by simp[results,Tryz.results109,go_sem]) rfl ⟨by rw[c.out.1,c.out.2.1,c.out.2.2],bZ⟩
theorem zft (s:ByteArray)(p:UInt8)(w:World)(g:s.size<=1000000000000) :
  Calls Tryz.prog 92 #[.string s,.string ⟨#[p]⟩] w fun e w'=>e=.returned (.tuple #[.string (Z4 p s),.string (Z5 p s),.bool (zbw p s)])/\Below w.heap.size w w':=by
 have c:=zhv s p w g;generalize Z4 p s=a at c ⊢;generalize Z5 p s=b at c ⊢;generalize zbw p s=f at c ⊢;go_enter Tryz.func92,Tryz.ntmps92;go_wp2_with fail;refine c.mono ?_;rintro e w2 ⟨rfl,d⟩;go_wp2;exact bodyPost_ret (v:=.tuple #[.string a,.string b,.bool f]) (by simp[results,Tryz.results92,go_sem]) rfl ⟨rfl,d⟩
set_option maxHeartbeats 800000 in
theorem zcy (s:ByteArray)(w:World)(j:s.size<=1000000000000)(h:PowAt w) :
  Calls Tryz.prog 93 #[.string s] w fun e w'=>e=.returned (.tuple #[int i64 (zI (Z4 47 s)),int i64 (zI (Z5 47 s))])/\Below w.heap.size w w':=by
 have g:=hI h;have d:=zft s 47 w j;clear h;generalize Z4 47 s=a at d ⊢;generalize Z5 47 s=b at d ⊢;go_enter Tryz.func93,Tryz.ntmps93;go_wp2_with fail;refine d.mono ?_;clear d;rintro e w2 ⟨rfl,i⟩;go_wp2_with fail;refine(ZO a _ (g.out.below i)).mono ?_;rintro e w3 ⟨rfl,c⟩;have c:=zj i c;go_wp2_with fail;refine(ZO b _ (g.out.below c)).mono ?_;rintro e w4 ⟨rfl,f⟩;go_wp2;exact bodyPost_ret (v:=.tuple #[int i64 (zI a),int i64 (zI b)]) (by simp[results,Tryz.results93,go_sem]) rfl ⟨rfl,zj c f⟩
end Go.Proofs.YtfallpinmhbemaaGreatDoor
namespace Go.Proofs.YtfallpinmhbemaaGreatDoor
open Go.RowKit
open Go.Value (int)
open Go.IntKind (i64)
set_option maxHeartbeats 64000000
set_option maxRecDepth 1000000
section
open Go.ChangeShapes Go.WideShapes Go.ChangeAt Go.RowKit
theorem Tryz.gPowType:(Tryz.prog.globals[4]?).map (·.type)=some 205:=by kernel_rfl
theorem Tryz.cellsPow:Tryz.prog.cellsOf 205=20:=by kernel_rfl
theorem Tryz.cellsU64:Tryz.prog.cellsOf 58=1:=by kernel_rfl
theorem pow_data {H:Type}:(Rows.laid_internal_strconv_uint64pow10:DataW H)=Lib.tabData .u64 Lib.pow10Tab:=by
 unfold Rows.laid_internal_strconv_uint64pow10 Lib.tabData Lib.pow10Tab
 rfl
theorem pow_of {H:Type}{enc:TypeId × Value->H}{W:World}{base:Nat}{a:Nat->Bool}{b:Bool}{fuel:Nat}{p:List MemPlace}{cs:Array Value}
  (hv : W.var? Tryz.prog "internal/strconv.uint64pow10" = some cs)
  (hd:DataW.trod enc Tryz.prog W base a b fuel 205 cs.toList=some (Rows.laid_internal_strconv_uint64pow10,p)):PowAt W:=by
 rw[pow_data] at hd;unfold PowAt Lib.TabIs;rw[hv,← Lib.cells_of_tab Tryz.underlying205 Tryz.underlying58 Tryz.cellsU64 Tryz.cellsPow hd]
theorem Tryz.gWords : Tryz.prog.globalNamed "loop.example/g00084/impl.opWords" = some 1 := by kernel_rfl
theorem Tryz.gWordsType:(Tryz.prog.globals[1]?).map (·.type)=some 84:=by kernel_rfl
theorem Tryz.cellsW10:Tryz.prog.cellsOf 84=10:=by kernel_rfl
theorem Tryz.cellsStr1:Tryz.prog.cellsOf 9=1:=by kernel_rfl
theorem Qw {s:ByteArray}{l:List UInt8}(h:s.data.toList=l):s=⟨l.toArray⟩:=by
 subst h
 apply ByteArray.ext
 simp
theorem words_of {H:Type}{enc:TypeId × Value->H}{W:World}{base:Nat}{c:Nat->Bool}{d:Bool}{fuel:Nat}{p:List MemPlace}{cs:Array Value}
  (hv : W.var? Tryz.prog "loop.example/g00084/impl.opWords" = some cs)
  (hd:DataW.trod enc Tryz.prog W base c d fuel 84 cs.toList=some (Rows.laid_loop_example_g00084_impl_opWords,p)):Qc W:=by
 obtain⟨Y,m,_,e,b,hn,a⟩:=DataW.trod_array Tryz.underlying84 hd;rw[Tryz.cellsW10] at b;rw[Tryz.cellsStr1] at a;have cell:=World.var?_cell Tryz.gWords hv;obtain⟨l⟩:=cs;simp only[Prod.mk.injEq] at e;have e:=e.1
 match Y,hn,l,b with
 | [x0,x1,x2,x3,x4,x5,x6,x7,x8,x9],_,[c0,c1,c2,c3,c4,c5,c6,c7,c8,c9],_ =>
  have t:=a 0 (by decide)
  have u:=a 1 (by decide)
  have v:=a 2 (by decide)
  have w:=a 3 (by decide)
  have x:=a 4 (by decide)
  have y:=a 5 (by decide)
  have z:=a 6 (by decide)
  have h7:=a 7 (by decide)
  have h8:=a 8 (by decide)
  have A:=a 9 (by decide)
  simp at t u v w x y z h7 h8 A;obtain⟨X,f,B,_⟩:=DataW.trod_string Tryz.underlying9 t;obtain⟨s1,g,C,_⟩:=DataW.trod_string Tryz.underlying9 u;obtain⟨s2,h,D,_⟩:=DataW.trod_string Tryz.underlying9 v;obtain⟨s3,i,f3,_⟩:=DataW.trod_string Tryz.underlying9 w;obtain⟨s4,j,E,_⟩:=DataW.trod_string Tryz.underlying9 x;obtain⟨s5,n,F,_⟩:=DataW.trod_string Tryz.underlying9 y;obtain⟨s6,o,G,_⟩:=DataW.trod_string Tryz.underlying9 z;obtain⟨s7,q,I,_⟩:=DataW.trod_string Tryz.underlying9 h7;obtain⟨s8,r,J,_⟩:=DataW.trod_string Tryz.underlying9 h8;obtain⟨s9,s,K,_⟩:=DataW.trod_string Tryz.underlying9 A;simp[Rows.laid_loop_example_g00084_impl_opWords,B,C,D,f3,E,F,G,I,J,K] at e;simp at f g h i j n o q r s;obtain⟨M,N,O,P,Q,R,S,T,U,V⟩:=e;subst f g h i j n o q r s;intro k hk;have L:k=0∨k=1∨k=2∨k=3∨k=4∨k=5∨k=6∨k=7∨k=8∨k=9:=by omega
  rcases L with rfl|rfl|rfl|rfl|rfl|rfl|rfl|rfl|rfl|rfl
  ·have:=cell 0
   simp at this;rw[this,show X=⟨#[]⟩ from ByteArray.ext M]
   rfl
  ·have:=cell 1
   simp at this;rw[this,Qw N.symm]
   rfl
  ·have:=cell 2
   simp at this;rw[this,Qw O.symm]
   rfl
  ·have:=cell 3
   simp at this;rw[this,Qw P.symm]
   rfl
  ·have:=cell 4
   simp at this;rw[this,Qw Q.symm]
   rfl
  ·have:=cell 5
   simp at this;rw[this,Qw R.symm]
   rfl
  ·have:=cell 6
   simp at this;rw[this,Qw S.symm]
   rfl
  ·have:=cell 7
   simp at this;rw[this,Qw T.symm]
   rfl
  ·have:=cell 8
   simp at this;rw[this,Qw U.symm]
   rfl
  ·have:=cell 9
   simp at this;rw[this,Qw V.symm]
   rfl
end
section
open Go.ChangeShapes Go.WideShapes Go.ChangeAt Go.RowKit
theorem Tryz.gLines : Tryz.prog.globalNamed "loop.example/g00084/impl.lineForms" = some 2 := by kernel_rfl
theorem Tryz.gLinesType:(Tryz.prog.globals[2]?).map (·.type)=some 103:=by kernel_rfl
theorem Tryz.cellsL11:Tryz.prog.cellsOf 103=22:=by kernel_rfl
theorem Tryz.cellsLine:Tryz.prog.cellsOf 102=2:=by kernel_rfl
theorem zhD {H:Type}{enc:TypeId × Value->H}{W:World}{base:Nat}{b:Nat->Bool}{c:Bool}{m:Nat}{l:List Value}{x:DataW H × List MemPlace}{a:List UInt8}{i:Int}
  (h:DataW.trod enc Tryz.prog W base b c m 102 l=some x) (k:x.1=.agg [.lit (.string a),.lit (.int .i64 i)]):l[0]?=some (.string ⟨a.toArray⟩):=by
 obtain⟨q,n,_,rfl,hl,d,j⟩:=DataW.trod_struct Tryz.underlying102 h;rw[Tryz.cellsLine] at hl
 match q,d,l,hl with
 | [y0,y1],_,[c0,c1],_ =>
  have f:=j 0 _ rfl;have g:=j 1 _ rfl;simp[Tryz.cellsInt1,Tryz.cellsStr1] at f g;obtain⟨s0,e,o,_⟩:=DataW.trod_string Tryz.underlying9 f;obtain⟨k1,e1,p,_⟩:=DataW.trod_int Tryz.underlying3 g;simp[o,p] at k;simp at e;rw[e,Qw k.1]
  rfl
theorem line_of {H:Type}{enc:TypeId × Value->H}{W:World}{base:Nat}{a:Nat->Bool}{d:Bool}{fuel:Nat}{p:List MemPlace}{cs:Array Value}
  (hv : W.var? Tryz.prog "loop.example/g00084/impl.lineForms" = some cs)
  (hd:DataW.trod enc Tryz.prog W base a d fuel 103 cs.toList=some (Rows.laid_loop_example_g00084_impl_lineForms,p)):zaT W:=by
 obtain⟨i,m,_,f,e,hn,b⟩:=DataW.trod_array Tryz.underlying103 hd;rw[Tryz.cellsL11] at e;rw[Tryz.cellsLine] at b;have cell:=World.var?_cell Tryz.gLines hv;obtain⟨l⟩:=cs;simp only[Prod.mk.injEq] at f;have f:=f.1
 match i,hn with
 | [x0,x1,x2,x3,x4,x5,x6,x7,x8,x9,x10],_ =>
  simp[Rows.laid_loop_example_g00084_impl_lineForms] at f;obtain⟨q0,h,_⟩:=f;have g:=zhD (b 1 (by decide)) h.symm
  have c:=cell 2;simp at c g;unfold zaT;rw[c];exact g
end
end Go.Proofs.YtfallpinmhbemaaGreatDoor
