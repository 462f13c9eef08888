/-
  OWN TEXT: SpecOa, SpecOb, SpecOd, SpecO2, SpecS, SpecT, FitS0.
-/
import Derived.Deep.DeepCutAuto
import Derived.Deep.LoopGhost
import Derived.Test.YtmdnjgihooflfaaGreatDoorB12
namespace Go.Proofs.YtmdnjgihooflfaaGreatDoor
open Go.RowKit
open Go.Value (int)
open Go.IntKind (i64)
open Tryz
set_option maxHeartbeats 64000000
set_option maxRecDepth 100000
theorem specOp_1 (own:ByteArray)(name:Int)(j:Option Addr)(lgn k:Nat)(lg:Nat->Int)(pe len hei cl:Int)(all:Bool)(be unt now:Int)(w:World)(_:own.size<=1000000000000000) :
  Calls prog 159 #[.agg #[int i64 1,own,name,(j,lgn,k),pe,len,hei,cl,all,be,unt,now]] w λe w'=>e=.returned (.bool (decide (zac ⟨1,own,name,lgn,lg,pe,len,hei,cl,all,be,unt,now⟩)))/\Below w.heap.size w w':=by
 obtain⟨R,G⟩:∃ R,R=decide (zac ⟨1,own,name,lgn,lg,pe,len,hei,cl,all,be,unt,now⟩):=⟨_,rfl⟩;rw[← G];obtain⟨bo,p⟩:∃ b,b=decide (ZS 1 own):=⟨_,rfl⟩;obtain⟨E,o⟩:∃ b,b=decide (Qs 1 name):=⟨_,rfl⟩;obtain⟨D,n⟩:∃ b,b=decide (qi 1 lgn):=⟨_,rfl⟩;obtain⟨bp,r⟩:∃ b,b=decide (qA 1 ⟨pe,len,hei,cl,all,be⟩):=⟨_,rfl⟩;obtain⟨B,s⟩:∃ b,b=decide (Qm 1 unt):=⟨_,rfl⟩;obtain⟨C,t⟩:∃ b,b=decide (zbW 1 now):=⟨_,rfl⟩;have i:Hid (R=(bo && E && D && bp && B && C)):=by
  show R=_
  rw[G,p,o,n,r,s,t];exact Q8 (by unfold In;omega)
 clear G;have X:own.toList.isEmpty=bo:=by rw[p,zap own (by omega)]
 have V:(name == 0)=E:=by rw[o,zds _ (by unfold In;omega)]
 have U:decide (In (lgn:Int) 1 3)=D:=by rw[n];exact decide_eq_decide.2 (by unfold qi zJ In;simp;omega)
 have P:=hI r;have J:=hI s;have K:=hI t;clear p o n r s t;have d9:decide (In 1 1 9)=true:=by decide
 have dn:decide (In 1 4 8)=false:=by decide
 have dl:decide (zJ 1)=true:=by decide
 have l:Below _ w (w.alloc (.cells #[int i64 1,own,name,(j,lgn,k),pe,len,hei,cl,all,be,unt,now] 47)):=zk bZ _;have z:=Jb w (.cells #[int i64 1,own,name,(j,lgn,k),pe,len,hei,cl,all,be,unt,now] 47);go_enter func159,ntmps159;go_upto_region 11 with(first|(go_at_call 148;refine sC (zt _ _ _ _) ?_)|(go_at_call 162;refine sC (zO _ _) ?_)|(go_at_call 160;refine sC (zV _ _) ?_))
 generalize w.alloc _=W at l z ⊢;obtain⟨H,Z,y2,I,y4,y5,y6,y7,y8,y9,v,x⟩:=zeW z;go_cut [7] (λc y=>c=.bool (PZ pe len hei cl all be)/\y=W)
 case first =>
  by_cases gpe:pe=0
  ·subst gpe
   by_cases glen:len=0
   ·subst glen
    by_cases ghei:hei=0
    ·subst ghei
     by_cases gcl:cl=0
     ·subst gcl
      cases all with
      | true =>
       have g:PZ 0 0 0 0 true be=false:=Zw (λh=>by cases h.2.2.2.2.1)
       go_wp2;go_meet;exact⟨by rw[g],rfl⟩
      | false =>
       by_cases gbe:be=0
       ·subst gbe
        go_wp2;go_meet;exact⟨rfl,rfl⟩
       ·have S:(be == 0)=false:=by simpa using gbe
        have g:PZ 0 0 0 0 false be=false:=Zw (λh=>gbe h.2.2.2.2.2)
        go_wp2;go_meet;exact⟨by rw[g],rfl⟩
     ·have T:(cl == 0)=false:=by simpa using gcl
      have g:PZ 0 0 0 cl all be=false:=Zw (λh=>gcl h.2.2.2.1)
      go_wp2;go_meet;exact⟨by rw[g],rfl⟩
    ·have M:(hei == 0)=false:=by simpa using ghei
     have g:PZ 0 0 hei cl all be=false:=Zw (λh=>ghei h.2.2.1)
     go_wp2;go_meet;exact⟨by rw[g],rfl⟩
   ·have N:(len == 0)=false:=by simpa using glen
    have g:PZ 0 len hei cl all be=false:=Zw (λh=>glen h.2.1)
    go_wp2;go_meet;exact⟨by rw[g],rfl⟩
  ·have Y:(pe == 0)=false:=by simpa using gpe
   have g:PZ pe len hei cl all be=false:=Zw (λh=>gpe h.1)
   go_wp2;go_meet;exact⟨by rw[g],rfl⟩
 case rest =>
  obtain⟨rfl,u⟩:=hcut;have u:=u.symm;subst u;generalize PZ pe len hei cl all be=pz at *;go_wp2_with (first|(go_at_call 148;refine sC (zt _ _ _ _) ?_)|(go_at_call 162;refine sC (zO _ _) ?_)|(go_at_call 160;refine sC (zV _ _) ?_))
  refine(zaz pe len hei cl all be _).mono ?_;rintro e L ⟨⟨q,rfl,O⟩,m⟩;obtain rfl:bp=q:=by rw[P.out];exact zcl (.inl rfl) O
  have A:=zb z m;have a:=ze l m;clear l z m O H Z y2 I y4 y5 y6 y7 y8 y9 v x;have H:=za A 0 _ rfl;have I:=za A 3 _ rfl;have v:=za A 10 _ rfl;have x:=za A 11 _ rfl;go_upto_region 17 with(first|(go_at_call 148;refine sC (zt _ _ _ _) ?_)|(go_at_call 162;refine sC (zO _ _) ?_)|(go_at_call 160;refine sC (zV _ _) ?_))
  go_cut [8] (λc y=>c=.bool B/\y=L)
  case first =>
   by_cases u0:unt=0
   ·subst u0
    go_wp2;go_meet;exact⟨by rw[J.out,Jd (.inl rfl)],rfl⟩
   ·have Q:(unt == 0)=false:=by simpa using u0
    have F:B=false:=by rw[J.out];exact Jc (λh=>by rcases h with h|h;exact u0 h;exact absurd h.1 (by decide))
    go_wp2;go_meet;exact⟨by rw[F],rfl⟩
  case rest =>
   obtain⟨rfl,d⟩:=hcut;have d:=d.symm;subst d;go_upto_region 18 with(first|(go_at_call 148;refine sC (zt _ _ _ _) ?_)|(go_at_call 162;refine sC (zO _ _) ?_)|(go_at_call 160;refine sC (zV _ _) ?_))
   go_cut [9] (λc y=>c=.bool C/\y=L)
   case first =>
    by_cases u0:now=0
    ·subst u0
     go_wp2;go_meet;exact⟨by rw[K.out,Jd (.inl rfl)],rfl⟩
    ·have Q:(now == 0)=false:=by simpa using u0
     have F:C=false:=by rw[K.out];exact Jc (λh=>by rcases h with h|h;exact u0 h;exact absurd h.1 (by decide))
     go_wp2;go_meet;exact⟨by rw[F],rfl⟩
   case rest =>
    obtain⟨rfl,f⟩:=hcut;have f:=f.symm;subst f;clear X V U H I v x
    cases bo with
    | false =>
     go_wp2;go_ret;exact⟨by rw[i.out];simp,a⟩
    | true =>
     cases E with
     | false =>
      go_wp2;go_ret;exact⟨by rw[i.out];simp,a⟩
     | true =>
      cases D with
      | false =>
       go_wp2;go_ret;exact⟨by rw[i.out];simp,a⟩
      | true =>
       cases bp with
       | false =>
        go_wp2;go_ret;exact⟨by rw[i.out];simp,a⟩
       | true =>
        cases B with
        | false =>
         go_wp2;go_ret;exact⟨by rw[i.out];simp,a⟩
        | true =>
         cases C with
         | false =>
          go_wp2;go_ret;exact⟨by rw[i.out];simp,a⟩
         | true =>
          go_wp2;go_ret;exact⟨by rw[i.out];rfl,a⟩
theorem specOp_2 (own:ByteArray)(name:Int)(k:Option Addr)(lgn l:Nat)(lg:Nat->Int)(pe len hei cl:Int)(all:Bool)(be unt now:Int)(w:World)(a:own.size<=1000000000000000) :
  Calls prog 159 #[.agg #[int i64 2,own,name,(k,lgn,l),pe,len,hei,cl,all,be,unt,now]] w λe w'=>e=.returned (.bool (decide (zac ⟨2,own,name,lgn,lg,pe,len,hei,cl,all,be,unt,now⟩)))/\Below w.heap.size w w':=by
 obtain⟨R,G⟩:∃ R,R=decide (zac ⟨2,own,name,lgn,lg,pe,len,hei,cl,all,be,unt,now⟩):=⟨_,rfl⟩;rw[← G];obtain⟨bo,r⟩:∃ b,b=decide (ZS 2 own):=⟨_,rfl⟩;obtain⟨F,p⟩:∃ b,b=decide (Qs 2 name):=⟨_,rfl⟩;obtain⟨E,o⟩:∃ b,b=decide (qi 2 lgn):=⟨_,rfl⟩;obtain⟨bp,s⟩:∃ b,b=decide (qA 2 ⟨pe,len,hei,cl,all,be⟩):=⟨_,rfl⟩;obtain⟨C,t⟩:∃ b,b=decide (Qm 2 unt):=⟨_,rfl⟩;obtain⟨D,u⟩:∃ b,b=decide (zbW 2 now):=⟨_,rfl⟩;have j:Hid (R=(bo && F && E && bp && C && D)):=by
  show R=_
  rw[G,r,p,o,s,t,u];exact Q8 (by unfold In;omega)
 clear G;have Y:decide (Zg own)=bo:=by rw[r];exact decide_eq_decide.2 (by unfold ZS;simp)
 have X:(name == 0)=F:=by rw[p,zds _ (by unfold In;omega)]
 have V:decide (In (lgn:Int) 1 3)=E:=by rw[o];exact decide_eq_decide.2 (by unfold qi zJ In;simp;omega)
 have Q:=hI s;have J:=hI t;have K:=hI u;clear r p o s t u;have d9:decide (In 2 1 9)=true:=by decide
 have dn:decide (In 2 4 8)=false:=by decide
 have dl:decide (zJ 2)=true:=by decide
 have m:Below _ w (w.alloc (.cells #[int i64 2,own,name,(k,lgn,l),pe,len,hei,cl,all,be,unt,now] 47)):=zk bZ _;have A:=Jb w (.cells #[int i64 2,own,name,(k,lgn,l),pe,len,hei,cl,all,be,unt,now] 47);go_enter func159,ntmps159;go_upto_region 11 with(first|(go_at_call 148;refine sC (zt _ _ _ _) ?_)|(go_at_call 162;refine sC (zO _ _) ?_)|(go_at_call 160;refine sC (zV _ _) ?_)|(go_at_call 156;refine sC (qS _ _ a) ?_))
 generalize w.alloc _=W at m A ⊢;obtain⟨H,y1,y2,I,y4,y5,y6,y7,y8,y9,x,y⟩:=zeW A;go_cut [7] (λc z=>c=.bool (PZ pe len hei cl all be)/\z=W)
 case first =>
  by_cases gpe:pe=0
  ·subst gpe
   by_cases glen:len=0
   ·subst glen
    by_cases ghei:hei=0
    ·subst ghei
     by_cases gcl:cl=0
     ·subst gcl
      cases all with
      | true =>
       have i:PZ 0 0 0 0 true be=false:=Zw (λh=>by cases h.2.2.2.2.1)
       go_wp2;go_meet;exact⟨by rw[i],rfl⟩
      | false =>
       by_cases gbe:be=0
       ·subst gbe
        go_wp2;go_meet;exact⟨rfl,rfl⟩
       ·have T:(be == 0)=false:=by simpa using gbe
        have i:PZ 0 0 0 0 false be=false:=Zw (λh=>gbe h.2.2.2.2.2)
        go_wp2;go_meet;exact⟨by rw[i],rfl⟩
     ·have U:(cl == 0)=false:=by simpa using gcl
      have i:PZ 0 0 0 cl all be=false:=Zw (λh=>gcl h.2.2.2.1)
      go_wp2;go_meet;exact⟨by rw[i],rfl⟩
    ·have M:(hei == 0)=false:=by simpa using ghei
     have i:PZ 0 0 hei cl all be=false:=Zw (λh=>ghei h.2.2.1)
     go_wp2;go_meet;exact⟨by rw[i],rfl⟩
   ·have N:(len == 0)=false:=by simpa using glen
    have i:PZ 0 len hei cl all be=false:=Zw (λh=>glen h.2.1)
    go_wp2;go_meet;exact⟨by rw[i],rfl⟩
  ·have Z:(pe == 0)=false:=by simpa using gpe
   have i:PZ pe len hei cl all be=false:=Zw (λh=>gpe h.1)
   go_wp2;go_meet;exact⟨by rw[i],rfl⟩
 case rest =>
  obtain⟨rfl,v⟩:=hcut;have v:=v.symm;subst v;generalize PZ pe len hei cl all be=pz at *;go_wp2_with (first|(go_at_call 148;refine sC (zt _ _ _ _) ?_)|(go_at_call 162;refine sC (zO _ _) ?_)|(go_at_call 160;refine sC (zV _ _) ?_)|(go_at_call 156;refine sC (qS _ _ a) ?_))
  refine(zaz pe len hei cl all be _).mono ?_;rintro e L ⟨⟨q,rfl,P⟩,n⟩;obtain rfl:bp=q:=by rw[Q.out];exact zcl (.inr (.inl rfl)) P
  have B:=zb A n;have d:=ze m n;clear m A n P H y1 y2 I y4 y5 y6 y7 y8 y9 x y;have H:=za B 0 _ rfl;have I:=za B 3 _ rfl;have x:=za B 10 _ rfl;have y:=za B 11 _ rfl;go_upto_region 17 with(first|(go_at_call 148;refine sC (zt _ _ _ _) ?_)|(go_at_call 162;refine sC (zO _ _) ?_)|(go_at_call 160;refine sC (zV _ _) ?_)|(go_at_call 156;refine sC (qS _ _ a) ?_))
  go_cut [8] (λc z=>c=.bool C/\z=L)
  case first =>
   by_cases u0:unt=0
   ·subst u0
    go_wp2;go_meet;exact⟨by rw[J.out,Jd (.inl rfl)],rfl⟩
   ·have S:(unt == 0)=false:=by simpa using u0
    have O:decide (In unt 0 10000)=C:=by rw[J.out];exact decide_eq_decide.2 ⟨λh=>.inr ⟨rfl,h⟩,λh=>by rcases h with h|h;exact absurd h u0;exact h.2⟩
    go_wp2_with (first|(go_at_call 148;refine sC (zt _ _ _ _) ?_)|(go_at_call 162;refine sC (zO _ _) ?_)|(go_at_call 160;refine sC (zV _ _) ?_)|(go_at_call 156;refine sC (qS _ _ a) ?_))
    go_meet;exact⟨rfl,rfl⟩
  case rest =>
   obtain⟨rfl,f⟩:=hcut;have f:=f.symm;subst f;go_upto_region 18 with(first|(go_at_call 148;refine sC (zt _ _ _ _) ?_)|(go_at_call 162;refine sC (zO _ _) ?_)|(go_at_call 160;refine sC (zV _ _) ?_)|(go_at_call 156;refine sC (qS _ _ a) ?_))
   go_cut [9] (λc z=>c=.bool D/\z=L)
   case first =>
    by_cases u0:now=0
    ·subst u0
     go_wp2;go_meet;exact⟨by rw[K.out,Jd (.inl rfl)],rfl⟩
    ·have S:(now == 0)=false:=by simpa using u0
     have O:D=false:=by rw[K.out];exact Jc (λh=>by rcases h with h|h;exact u0 h;exact absurd h.1 (by decide))
     go_wp2;go_meet;exact⟨by rw[O],rfl⟩
   case rest =>
    obtain⟨rfl,g⟩:=hcut;have g:=g.symm;subst g;clear Y X V H I x y
    cases bo with
    | false =>
     go_wp2;go_ret;exact⟨by rw[j.out];simp,d⟩
    | true =>
     cases F with
     | false =>
      go_wp2;go_ret;exact⟨by rw[j.out];simp,d⟩
     | true =>
      cases E with
      | false =>
       go_wp2;go_ret;exact⟨by rw[j.out];simp,d⟩
      | true =>
       cases bp with
       | false =>
        go_wp2;go_ret;exact⟨by rw[j.out];simp,d⟩
       | true =>
        cases C with
        | false =>
         go_wp2;go_ret;exact⟨by rw[j.out];simp,d⟩
        | true =>
         cases D with
         | false =>
          go_wp2;go_ret;exact⟨by rw[j.out];simp,d⟩
         | true =>
          go_wp2;go_ret;exact⟨by rw[j.out];rfl,d⟩
theorem specOp_3 (own:ByteArray)(name:Int)(k:Option Addr)(lgn l:Nat)(lg:Nat->Int)(pe len hei cl:Int)(all:Bool)(be unt now:Int)(w:World)(d:own.size<=1000000000000000) :
  Calls prog 159 #[.agg #[int i64 3,own,name,(k,lgn,l),pe,len,hei,cl,all,be,unt,now]] w λe w'=>e=.returned (.bool (decide (zac ⟨3,own,name,lgn,lg,pe,len,hei,cl,all,be,unt,now⟩)))/\Below w.heap.size w w':=by
 obtain⟨R,H⟩:∃ R,R=decide (zac ⟨3,own,name,lgn,lg,pe,len,hei,cl,all,be,unt,now⟩):=⟨_,rfl⟩;rw[← H];obtain⟨bo,r⟩:∃ b,b=decide (ZS 3 own):=⟨_,rfl⟩;obtain⟨F,p⟩:∃ b,b=decide (Qs 3 name):=⟨_,rfl⟩;obtain⟨E,o⟩:∃ b,b=decide (qi 3 lgn):=⟨_,rfl⟩;obtain⟨bp,s⟩:∃ b,b=decide (qA 3 ⟨pe,len,hei,cl,all,be⟩):=⟨_,rfl⟩;obtain⟨C,t⟩:∃ b,b=decide (Qm 3 unt):=⟨_,rfl⟩;obtain⟨D,u⟩:∃ b,b=decide (zbW 3 now):=⟨_,rfl⟩;have j:Hid (R=(bo && F && E && bp && C && D)):=by
  show R=_
  rw[H,r,p,o,s,t,u];exact Q8 (by unfold In;omega)
 clear H;have Y:decide (Zg own)=bo:=by rw[r];exact decide_eq_decide.2 (by unfold ZS;simp)
 have X:(name == 0)=F:=by rw[p,zds _ (by unfold In;omega)]
 have V:decide (In (lgn:Int) 1 3)=E:=by rw[o];exact decide_eq_decide.2 (by unfold qi zJ In;simp;omega)
 have Q:=hI s;have K:=hI t;have L:=hI u;clear r p o s t u;have d9:decide (In 3 1 9)=true:=by decide
 have dn:decide (In 3 4 8)=false:=by decide
 have dl:decide (zJ 3)=true:=by decide
 have m:Below _ w (w.alloc (.cells #[int i64 3,own,name,(k,lgn,l),pe,len,hei,cl,all,be,unt,now] 47)):=zk bZ _;have A:=Jb w (.cells #[int i64 3,own,name,(k,lgn,l),pe,len,hei,cl,all,be,unt,now] 47);go_enter func159,ntmps159;go_upto_region 11 with(first|(go_at_call 148;refine sC (zt _ _ _ _) ?_)|(go_at_call 162;refine sC (zO _ _) ?_)|(go_at_call 160;refine sC (zV _ _) ?_)|(go_at_call 156;refine sC (qS _ _ d) ?_))
 generalize w.alloc _=W at m A ⊢;obtain⟨I,y1,y2,J,y4,y5,y6,y7,y8,y9,x,y⟩:=zeW A;go_cut [7] (λc z=>c=.bool (PZ pe len hei cl all be)/\z=W)
 case first =>
  by_cases gpe:pe=0
  ·subst gpe
   by_cases glen:len=0
   ·subst glen
    by_cases ghei:hei=0
    ·subst ghei
     by_cases gcl:cl=0
     ·subst gcl
      cases all with
      | true =>
       have i:PZ 0 0 0 0 true be=false:=Zw (λh=>by cases h.2.2.2.2.1)
       go_wp2;go_meet;exact⟨by rw[i],rfl⟩
      | false =>
       by_cases gbe:be=0
       ·subst gbe
        go_wp2;go_meet;exact⟨rfl,rfl⟩
       ·have T:(be == 0)=false:=by simpa using gbe
        have i:PZ 0 0 0 0 false be=false:=Zw (λh=>gbe h.2.2.2.2.2)
        go_wp2;go_meet;exact⟨by rw[i],rfl⟩
     ·have U:(cl == 0)=false:=by simpa using gcl
      have i:PZ 0 0 0 cl all be=false:=Zw (λh=>gcl h.2.2.2.1)
      go_wp2;go_meet;exact⟨by rw[i],rfl⟩
    ·have N:(hei == 0)=false:=by simpa using ghei
     have i:PZ 0 0 hei cl all be=false:=Zw (λh=>ghei h.2.2.1)
     go_wp2;go_meet;exact⟨by rw[i],rfl⟩
   ·have O:(len == 0)=false:=by simpa using glen
    have i:PZ 0 len hei cl all be=false:=Zw (λh=>glen h.2.1)
    go_wp2;go_meet;exact⟨by rw[i],rfl⟩
  ·have Z:(pe == 0)=false:=by simpa using gpe
   have i:PZ pe len hei cl all be=false:=Zw (λh=>gpe h.1)
   go_wp2;go_meet;exact⟨by rw[i],rfl⟩
 case rest =>
  obtain⟨rfl,v⟩:=hcut;have v:=v.symm;subst v;generalize PZ pe len hei cl all be=pz at *;go_wp2_with (first|(go_at_call 148;refine sC (zt _ _ _ _) ?_)|(go_at_call 162;refine sC (zO _ _) ?_)|(go_at_call 160;refine sC (zV _ _) ?_)|(go_at_call 156;refine sC (qS _ _ d) ?_))
  refine(zaz pe len hei cl all be _).mono ?_;rintro e M ⟨⟨q,rfl,P⟩,n⟩;obtain rfl:bp=q:=by rw[Q.out];exact zcl (.inr (.inr (.inl rfl))) P
  have B:=zb A n;have a:=ze m n;clear m A n P I y1 y2 J y4 y5 y6 y7 y8 y9 x y;have I:=za B 0 _ rfl;have J:=za B 3 _ rfl;have x:=za B 10 _ rfl;have y:=za B 11 _ rfl;go_upto_region 17 with(first|(go_at_call 148;refine sC (zt _ _ _ _) ?_)|(go_at_call 162;refine sC (zO _ _) ?_)|(go_at_call 160;refine sC (zV _ _) ?_)|(go_at_call 156;refine sC (qS _ _ d) ?_))
  go_cut [8] (λc z=>c=.bool C/\z=M)
  case first =>
   by_cases u0:unt=0
   ·subst u0
    go_wp2;go_meet;exact⟨by rw[K.out,Jd (.inl rfl)],rfl⟩
   ·have S:(unt == 0)=false:=by simpa using u0
    have G:C=false:=by rw[K.out];exact Jc (λh=>by rcases h with h|h;exact u0 h;exact absurd h.1 (by decide))
    go_wp2;go_meet;exact⟨by rw[G],rfl⟩
  case rest =>
   obtain⟨rfl,f⟩:=hcut;have f:=f.symm;subst f;go_upto_region 18 with(first|(go_at_call 148;refine sC (zt _ _ _ _) ?_)|(go_at_call 162;refine sC (zO _ _) ?_)|(go_at_call 160;refine sC (zV _ _) ?_)|(go_at_call 156;refine sC (qS _ _ d) ?_))
   go_cut [9] (λc z=>c=.bool D/\z=M)
   case first =>
    by_cases u0:now=0
    ·subst u0
     go_wp2;go_meet;exact⟨by rw[L.out,Jd (.inl rfl)],rfl⟩
    ·have S:(now == 0)=false:=by simpa using u0
     have G:D=false:=by rw[L.out];exact Jc (λh=>by rcases h with h|h;exact u0 h;exact absurd h.1 (by decide))
     go_wp2;go_meet;exact⟨by rw[G],rfl⟩
   case rest =>
    obtain⟨rfl,g⟩:=hcut;have g:=g.symm;subst g;clear Y X V I J x y
    cases bo with
    | false =>
     go_wp2;go_ret;exact⟨by rw[j.out];simp,a⟩
    | true =>
     cases F with
     | false =>
      go_wp2;go_ret;exact⟨by rw[j.out];simp,a⟩
     | true =>
      cases E with
      | false =>
       go_wp2;go_ret;exact⟨by rw[j.out];simp,a⟩
      | true =>
       cases bp with
       | false =>
        go_wp2;go_ret;exact⟨by rw[j.out];simp,a⟩
       | true =>
        cases C with
        | false =>
         go_wp2;go_ret;exact⟨by rw[j.out];simp,a⟩
        | true =>
         cases D with
         | false =>
          go_wp2;go_ret;exact⟨by rw[j.out];simp,a⟩
         | true =>
          go_wp2;go_ret;exact⟨by rw[j.out];rfl,a⟩
theorem specOp_4 (own:ByteArray)(name:Int)(j:Option Addr)(lgn k:Nat)(lg:Nat->Int)(pe len hei cl:Int)(all:Bool)(be unt now:Int)(w:World)(_:own.size<=1000000000000000) :
  Calls prog 159 #[.agg #[int i64 4,own,name,(j,lgn,k),pe,len,hei,cl,all,be,unt,now]] w λe w'=>e=.returned (.bool (decide (zac ⟨4,own,name,lgn,lg,pe,len,hei,cl,all,be,unt,now⟩)))/\Below w.heap.size w w':=by
 obtain⟨R,B⟩:∃ R,R=decide (zac ⟨4,own,name,lgn,lg,pe,len,hei,cl,all,be,unt,now⟩):=⟨_,rfl⟩;rw[← B];obtain⟨bo,o⟩:∃ b,b=decide (ZS 4 own):=⟨_,rfl⟩;obtain⟨z,n⟩:∃ b,b=decide (Qs 4 name):=⟨_,rfl⟩;obtain⟨y,m⟩:∃ b,b=decide (qi 4 lgn):=⟨_,rfl⟩;obtain⟨bp,p⟩:∃ b,b=decide (qA 4 ⟨pe,len,hei,cl,all,be⟩):=⟨_,rfl⟩;obtain⟨u,q⟩:∃ b,b=decide (Qm 4 unt):=⟨_,rfl⟩;obtain⟨v,r⟩:∃ b,b=decide (zbW 4 now):=⟨_,rfl⟩;have i:Hid (R=(bo && z && y && bp && u && v)):=by
  show R=_
  rw[B,o,n,m,p,q,r];exact Q8 (by unfold In;omega)
 clear B;have O:own.toList.isEmpty=bo:=by rw[o,zap own (by omega)]
 have N:decide (In name 1 30)=z:=by rw[n];exact decide_eq_decide.2 (by unfold Qs In;simp)
 have M:((lgn:Int) == 0)=y:=by rw[m,zey];exact decide_eq_decide.2 (by unfold qi zJ;simp)
 have I:=hI p;have E:=hI q;have F:=hI r;clear o n m p q r;have d9:decide (In 4 1 9)=true:=by decide
 have dn:decide (In 4 4 8)=true:=by decide
 have dl:decide (zJ 4)=false:=by decide
 have l:Below _ w (w.alloc (.cells #[int i64 4,own,name,(j,lgn,k),pe,len,hei,cl,all,be,unt,now] 47)):=zk bZ _;have x:=Jb w (.cells #[int i64 4,own,name,(j,lgn,k),pe,len,hei,cl,all,be,unt,now] 47);go_enter func159,ntmps159;go_upto_region 11 with(first|(go_at_call 148;refine sC (zt _ _ _ _) ?_)|(go_at_call 162;refine sC (zO _ _) ?_)|(go_at_call 160;refine sC (zV _ _) ?_))
 generalize w.alloc _=W at l x ⊢;obtain⟨Q,S,T,U,V,X,Y,Z,y8,y9,C,D⟩:=zeW x;go_cut [7] (λc t=>c=.bool (PZ pe len hei cl all be)/\t=W)
 case first =>
  by_cases gpe:pe=0
  ·subst gpe
   by_cases glen:len=0
   ·subst glen
    by_cases ghei:hei=0
    ·subst ghei
     by_cases gcl:cl=0
     ·subst gcl
      cases all with
      | true =>
       have g:PZ 0 0 0 0 true be=false:=Zw (λh=>by cases h.2.2.2.2.1)
       go_wp2;go_meet;exact⟨by rw[g],rfl⟩
      | false =>
       by_cases gbe:be=0
       ·subst gbe
        go_wp2;go_meet;exact⟨rfl,rfl⟩
       ·have K:(be == 0)=false:=by simpa using gbe
        have g:PZ 0 0 0 0 false be=false:=Zw (λh=>gbe h.2.2.2.2.2)
        go_wp2;go_meet;exact⟨by rw[g],rfl⟩
     ·have L:(cl == 0)=false:=by simpa using gcl
      have g:PZ 0 0 0 cl all be=false:=Zw (λh=>gcl h.2.2.2.1)
      go_wp2;go_meet;exact⟨by rw[g],rfl⟩
    ·have G:(hei == 0)=false:=by simpa using ghei
     have g:PZ 0 0 hei cl all be=false:=Zw (λh=>ghei h.2.2.1)
     go_wp2;go_meet;exact⟨by rw[g],rfl⟩
   ·have H:(len == 0)=false:=by simpa using glen
    have g:PZ 0 len hei cl all be=false:=Zw (λh=>glen h.2.1)
    go_wp2;go_meet;exact⟨by rw[g],rfl⟩
  ·have P:(pe == 0)=false:=by simpa using gpe
   have g:PZ pe len hei cl all be=false:=Zw (λh=>gpe h.1)
   go_wp2;go_meet;exact⟨by rw[g],rfl⟩
 case rest =>
  obtain⟨rfl,s⟩:=hcut;have s:=s.symm;subst s;obtain rfl:PZ pe len hei cl all be=bp:=by rw[I.out];exact zby (by unfold zJ;omega)
  generalize PZ pe len hei cl all be=bp at *;have a:=l;clear l x;go_upto_region 17 with(first|(go_at_call 148;refine sC (zt _ _ _ _) ?_)|(go_at_call 162;refine sC (zO _ _) ?_)|(go_at_call 160;refine sC (zV _ _) ?_))
  go_cut [8] (λc t=>c=.bool u/\t=W)
  case first =>
   by_cases u0:unt=0
   ·subst u0
    go_wp2;go_meet;exact⟨by rw[E.out,Jd (.inl rfl)],rfl⟩
   ·have J:(unt == 0)=false:=by simpa using u0
    have A:u=false:=by rw[E.out];exact Jc (λh=>by rcases h with h|h;exact u0 h;exact absurd h.1 (by decide))
    go_wp2;go_meet;exact⟨by rw[A],rfl⟩
  case rest =>
   obtain⟨rfl,d⟩:=hcut;have d:=d.symm;subst d;go_upto_region 18 with(first|(go_at_call 148;refine sC (zt _ _ _ _) ?_)|(go_at_call 162;refine sC (zO _ _) ?_)|(go_at_call 160;refine sC (zV _ _) ?_))
   go_cut [9] (λc t=>c=.bool v/\t=W)
   case first =>
    by_cases u0:now=0
    ·subst u0
     go_wp2;go_meet;exact⟨by rw[F.out,Jd (.inl rfl)],rfl⟩
    ·have J:(now == 0)=false:=by simpa using u0
     have A:v=false:=by rw[F.out];exact Jc (λh=>by rcases h with h|h;exact u0 h;exact absurd h.1 (by decide))
     go_wp2;go_meet;exact⟨by rw[A],rfl⟩
   case rest =>
    obtain⟨rfl,f⟩:=hcut;have f:=f.symm;subst f;clear O N M Q S T U V X Y Z y8 y9 C D
    cases bo with
    | false =>
     go_wp2;go_ret;exact⟨by rw[i.out];simp,a⟩
    | true =>
     cases z with
     | false =>
      go_wp2;go_ret;exact⟨by rw[i.out];simp,a⟩
     | true =>
      cases y with
      | false =>
       go_wp2;go_ret;exact⟨by rw[i.out];simp,a⟩
      | true =>
       cases bp with
       | false =>
        go_wp2;go_ret;exact⟨by rw[i.out];simp,a⟩
       | true =>
        cases u with
        | false =>
         go_wp2;go_ret;exact⟨by rw[i.out];simp,a⟩
        | true =>
         cases v with
         | false =>
          go_wp2;go_ret;exact⟨by rw[i.out];simp,a⟩
         | true =>
          go_wp2;go_ret;exact⟨by rw[i.out];rfl,a⟩
theorem specOp_5 (own:ByteArray)(name:Int)(j:Option Addr)(lgn k:Nat)(lg:Nat->Int)(pe len hei cl:Int)(all:Bool)(be unt now:Int)(w:World)(_:own.size<=1000000000000000) :
  Calls prog 159 #[.agg #[int i64 5,own,name,(j,lgn,k),pe,len,hei,cl,all,be,unt,now]] w λe w'=>e=.returned (.bool (decide (zac ⟨5,own,name,lgn,lg,pe,len,hei,cl,all,be,unt,now⟩)))/\Below w.heap.size w w':=by
 obtain⟨R,G⟩:∃ R,R=decide (zac ⟨5,own,name,lgn,lg,pe,len,hei,cl,all,be,unt,now⟩):=⟨_,rfl⟩;rw[← G];obtain⟨bo,p⟩:∃ b,b=decide (ZS 5 own):=⟨_,rfl⟩;obtain⟨E,o⟩:∃ b,b=decide (Qs 5 name):=⟨_,rfl⟩;obtain⟨D,n⟩:∃ b,b=decide (qi 5 lgn):=⟨_,rfl⟩;obtain⟨bp,r⟩:∃ b,b=decide (qA 5 ⟨pe,len,hei,cl,all,be⟩):=⟨_,rfl⟩;obtain⟨B,s⟩:∃ b,b=decide (Qm 5 unt):=⟨_,rfl⟩;obtain⟨C,t⟩:∃ b,b=decide (zbW 5 now):=⟨_,rfl⟩;have i:Hid (R=(bo && E && D && bp && B && C)):=by
  show R=_
  rw[G,p,o,n,r,s,t];exact Q8 (by unfold In;omega)
 clear G;have X:own.toList.isEmpty=bo:=by rw[p,zap own (by omega)]
 have V:decide (In name 1 30)=E:=by rw[o];exact decide_eq_decide.2 (by unfold Qs In;simp)
 have U:decide (In (lgn:Int) 1 3)=D:=by rw[n];exact decide_eq_decide.2 (by unfold qi zJ In;simp;omega)
 have P:=hI r;have J:=hI s;have K:=hI t;clear p o n r s t;have d9:decide (In 5 1 9)=true:=by decide
 have dn:decide (In 5 4 8)=true:=by decide
 have dl:decide (zJ 5)=true:=by decide
 have l:Below _ w (w.alloc (.cells #[int i64 5,own,name,(j,lgn,k),pe,len,hei,cl,all,be,unt,now] 47)):=zk bZ _;have z:=Jb w (.cells #[int i64 5,own,name,(j,lgn,k),pe,len,hei,cl,all,be,unt,now] 47);go_enter func159,ntmps159;go_upto_region 11 with(first|(go_at_call 148;refine sC (zt _ _ _ _) ?_)|(go_at_call 162;refine sC (zO _ _) ?_)|(go_at_call 160;refine sC (zV _ _) ?_))
 generalize w.alloc _=W at l z ⊢;obtain⟨H,Z,y2,I,y4,y5,y6,y7,y8,y9,v,x⟩:=zeW z;go_cut [7] (λc y=>c=.bool (PZ pe len hei cl all be)/\y=W)
 case first =>
  by_cases gpe:pe=0
  ·subst gpe
   by_cases glen:len=0
   ·subst glen
    by_cases ghei:hei=0
    ·subst ghei
     by_cases gcl:cl=0
     ·subst gcl
      cases all with
      | true =>
       have g:PZ 0 0 0 0 true be=false:=Zw (λh=>by cases h.2.2.2.2.1)
       go_wp2;go_meet;exact⟨by rw[g],rfl⟩
      | false =>
       by_cases gbe:be=0
       ·subst gbe
        go_wp2;go_meet;exact⟨rfl,rfl⟩
       ·have S:(be == 0)=false:=by simpa using gbe
        have g:PZ 0 0 0 0 false be=false:=Zw (λh=>gbe h.2.2.2.2.2)
        go_wp2;go_meet;exact⟨by rw[g],rfl⟩
     ·have T:(cl == 0)=false:=by simpa using gcl
      have g:PZ 0 0 0 cl all be=false:=Zw (λh=>gcl h.2.2.2.1)
      go_wp2;go_meet;exact⟨by rw[g],rfl⟩
    ·have M:(hei == 0)=false:=by simpa using ghei
     have g:PZ 0 0 hei cl all be=false:=Zw (λh=>ghei h.2.2.1)
     go_wp2;go_meet;exact⟨by rw[g],rfl⟩
   ·have N:(len == 0)=false:=by simpa using glen
    have g:PZ 0 len hei cl all be=false:=Zw (λh=>glen h.2.1)
    go_wp2;go_meet;exact⟨by rw[g],rfl⟩
  ·have Y:(pe == 0)=false:=by simpa using gpe
   have g:PZ pe len hei cl all be=false:=Zw (λh=>gpe h.1)
   go_wp2;go_meet;exact⟨by rw[g],rfl⟩
 case rest =>
  obtain⟨rfl,u⟩:=hcut;have u:=u.symm;subst u;generalize PZ pe len hei cl all be=pz at *;go_wp2_with (first|(go_at_call 148;refine sC (zt _ _ _ _) ?_)|(go_at_call 162;refine sC (zO _ _) ?_)|(go_at_call 160;refine sC (zV _ _) ?_))
  refine(zaz pe len hei cl all be _).mono ?_;rintro e L ⟨⟨q,rfl,O⟩,m⟩;obtain rfl:bp=q:=by rw[P.out];exact zcl (.inr (.inr (.inr rfl))) O
  have A:=zb z m;have a:=ze l m;clear l z m O H Z y2 I y4 y5 y6 y7 y8 y9 v x;have H:=za A 0 _ rfl;have I:=za A 3 _ rfl;have v:=za A 10 _ rfl;have x:=za A 11 _ rfl;go_upto_region 17 with(first|(go_at_call 148;refine sC (zt _ _ _ _) ?_)|(go_at_call 162;refine sC (zO _ _) ?_)|(go_at_call 160;refine sC (zV _ _) ?_))
  go_cut [8] (λc y=>c=.bool B/\y=L)
  case first =>
   by_cases u0:unt=0
   ·subst u0
    go_wp2;go_meet;exact⟨by rw[J.out,Jd (.inl rfl)],rfl⟩
   ·have Q:(unt == 0)=false:=by simpa using u0
    have F:B=false:=by rw[J.out];exact Jc (λh=>by rcases h with h|h;exact u0 h;exact absurd h.1 (by decide))
    go_wp2;go_meet;exact⟨by rw[F],rfl⟩
  case rest =>
   obtain⟨rfl,d⟩:=hcut;have d:=d.symm;subst d;go_upto_region 18 with(first|(go_at_call 148;refine sC (zt _ _ _ _) ?_)|(go_at_call 162;refine sC (zO _ _) ?_)|(go_at_call 160;refine sC (zV _ _) ?_))
   go_cut [9] (λc y=>c=.bool C/\y=L)
   case first =>
    by_cases u0:now=0
    ·subst u0
     go_wp2;go_meet;exact⟨by rw[K.out,Jd (.inl rfl)],rfl⟩
    ·have Q:(now == 0)=false:=by simpa using u0
     have F:C=false:=by rw[K.out];exact Jc (λh=>by rcases h with h|h;exact u0 h;exact absurd h.1 (by decide))
     go_wp2;go_meet;exact⟨by rw[F],rfl⟩
   case rest =>
    obtain⟨rfl,f⟩:=hcut;have f:=f.symm;subst f;clear X V U H I v x
    cases bo with
    | false =>
     go_wp2;go_ret;exact⟨by rw[i.out];simp,a⟩
    | true =>
     cases E with
     | false =>
      go_wp2;go_ret;exact⟨by rw[i.out];simp,a⟩
     | true =>
      cases D with
      | false =>
       go_wp2;go_ret;exact⟨by rw[i.out];simp,a⟩
      | true =>
       cases bp with
       | false =>
        go_wp2;go_ret;exact⟨by rw[i.out];simp,a⟩
       | true =>
        cases B with
        | false =>
         go_wp2;go_ret;exact⟨by rw[i.out];simp,a⟩
        | true =>
         cases C with
         | false =>
          go_wp2;go_ret;exact⟨by rw[i.out];simp,a⟩
         | true =>
          go_wp2;go_ret;exact⟨by rw[i.out];rfl,a⟩
theorem specOp_6 (own:ByteArray)(name:Int)(j:Option Addr)(lgn k:Nat)(lg:Nat->Int)(pe len hei cl:Int)(all:Bool)(be unt now:Int)(w:World)(_:own.size<=1000000000000000) :
  Calls prog 159 #[.agg #[int i64 6,own,name,(j,lgn,k),pe,len,hei,cl,all,be,unt,now]] w λe w'=>e=.returned (.bool (decide (zac ⟨6,own,name,lgn,lg,pe,len,hei,cl,all,be,unt,now⟩)))/\Below w.heap.size w w':=by
 obtain⟨R,A⟩:∃ R,R=decide (zac ⟨6,own,name,lgn,lg,pe,len,hei,cl,all,be,unt,now⟩):=⟨_,rfl⟩;rw[← A];obtain⟨bo,o⟩:∃ b,b=decide (ZS 6 own):=⟨_,rfl⟩;obtain⟨z,n⟩:∃ b,b=decide (Qs 6 name):=⟨_,rfl⟩;obtain⟨y,m⟩:∃ b,b=decide (qi 6 lgn):=⟨_,rfl⟩;obtain⟨bp,p⟩:∃ b,b=decide (qA 6 ⟨pe,len,hei,cl,all,be⟩):=⟨_,rfl⟩;obtain⟨u,q⟩:∃ b,b=decide (Qm 6 unt):=⟨_,rfl⟩;obtain⟨v,r⟩:∃ b,b=decide (zbW 6 now):=⟨_,rfl⟩;have i:Hid (R=(bo && z && y && bp && u && v)):=by
  show R=_
  rw[A,o,n,m,p,q,r];exact Q8 (by unfold In;omega)
 clear A;have O:own.toList.isEmpty=bo:=by rw[o,zap own (by omega)]
 have N:decide (In name 1 30)=z:=by rw[n];exact decide_eq_decide.2 (by unfold Qs In;simp)
 have M:((lgn:Int) == 0)=y:=by rw[m,zey];exact decide_eq_decide.2 (by unfold qi zJ;simp)
 have I:=hI p;have D:=hI q;have E:=hI r;clear o n m p q r;have d9:decide (In 6 1 9)=true:=by decide
 have dn:decide (In 6 4 8)=true:=by decide
 have dl:decide (zJ 6)=false:=by decide
 have l:Below _ w (w.alloc (.cells #[int i64 6,own,name,(j,lgn,k),pe,len,hei,cl,all,be,unt,now] 47)):=zk bZ _;have x:=Jb w (.cells #[int i64 6,own,name,(j,lgn,k),pe,len,hei,cl,all,be,unt,now] 47);go_enter func159,ntmps159;go_upto_region 11 with(first|(go_at_call 148;refine sC (zt _ _ _ _) ?_)|(go_at_call 162;refine sC (zO _ _) ?_)|(go_at_call 160;refine sC (zV _ _) ?_))
 generalize w.alloc _=W at l x ⊢;obtain⟨Q,S,T,U,V,X,Y,Z,y8,y9,B,C⟩:=zeW x;go_cut [7] (λc t=>c=.bool (PZ pe len hei cl all be)/\t=W)
 case first =>
  by_cases gpe:pe=0
  ·subst gpe
   by_cases glen:len=0
   ·subst glen
    by_cases ghei:hei=0
    ·subst ghei
     by_cases gcl:cl=0
     ·subst gcl
      cases all with
      | true =>
       have g:PZ 0 0 0 0 true be=false:=Zw (λh=>by cases h.2.2.2.2.1)
       go_wp2;go_meet;exact⟨by rw[g],rfl⟩
      | false =>
       by_cases gbe:be=0
       ·subst gbe
        go_wp2;go_meet;exact⟨rfl,rfl⟩
       ·have K:(be == 0)=false:=by simpa using gbe
        have g:PZ 0 0 0 0 false be=false:=Zw (λh=>gbe h.2.2.2.2.2)
        go_wp2;go_meet;exact⟨by rw[g],rfl⟩
     ·have L:(cl == 0)=false:=by simpa using gcl
      have g:PZ 0 0 0 cl all be=false:=Zw (λh=>gcl h.2.2.2.1)
      go_wp2;go_meet;exact⟨by rw[g],rfl⟩
    ·have F:(hei == 0)=false:=by simpa using ghei
     have g:PZ 0 0 hei cl all be=false:=Zw (λh=>ghei h.2.2.1)
     go_wp2;go_meet;exact⟨by rw[g],rfl⟩
   ·have G:(len == 0)=false:=by simpa using glen
    have g:PZ 0 len hei cl all be=false:=Zw (λh=>glen h.2.1)
    go_wp2;go_meet;exact⟨by rw[g],rfl⟩
  ·have P:(pe == 0)=false:=by simpa using gpe
   have g:PZ pe len hei cl all be=false:=Zw (λh=>gpe h.1)
   go_wp2;go_meet;exact⟨by rw[g],rfl⟩
 case rest =>
  obtain⟨rfl,s⟩:=hcut;have s:=s.symm;subst s;obtain rfl:PZ pe len hei cl all be=bp:=by rw[I.out];exact zby (by unfold zJ;omega)
  generalize PZ pe len hei cl all be=bp at *;have a:=l;clear l x;go_upto_region 17 with(first|(go_at_call 148;refine sC (zt _ _ _ _) ?_)|(go_at_call 162;refine sC (zO _ _) ?_)|(go_at_call 160;refine sC (zV _ _) ?_))
  go_cut [8] (λc t=>c=.bool u/\t=W)
  case first =>
   by_cases u0:unt=0
   ·subst u0
    go_wp2;go_meet;exact⟨by rw[D.out,Jd (.inl rfl)],rfl⟩
   ·have J:(unt == 0)=false:=by simpa using u0
    have H:u=false:=by rw[D.out];exact Jc (λh=>by rcases h with h|h;exact u0 h;exact absurd h.1 (by decide))
    go_wp2;go_meet;exact⟨by rw[H],rfl⟩
  case rest =>
   obtain⟨rfl,d⟩:=hcut;have d:=d.symm;subst d;go_upto_region 18 with(first|(go_at_call 148;refine sC (zt _ _ _ _) ?_)|(go_at_call 162;refine sC (zO _ _) ?_)|(go_at_call 160;refine sC (zV _ _) ?_))
   go_cut [9] (λc t=>c=.bool v/\t=W)
   case first =>
    by_cases u0:now=0
    ·subst u0
     go_wp2;go_meet;exact⟨by rw[E.out,Jd (.inl rfl)],rfl⟩
    ·have J:(now == 0)=false:=by simpa using u0
     have H:decide (In now 0 10000)=v:=by rw[E.out];exact decide_eq_decide.2 ⟨λh=>.inr ⟨.inr rfl,h⟩,λh=>by rcases h with h|h;exact absurd h u0;exact h.2⟩
     go_wp2_with (first|(go_at_call 148;refine sC (zt _ _ _ _) ?_)|(go_at_call 162;refine sC (zO _ _) ?_)|(go_at_call 160;refine sC (zV _ _) ?_))
     go_meet;exact⟨rfl,rfl⟩
   case rest =>
    obtain⟨rfl,f⟩:=hcut;have f:=f.symm;subst f;clear O N M Q S T U V X Y Z y8 y9 B C
    cases bo with
    | false =>
     go_wp2;go_ret;exact⟨by rw[i.out];simp,a⟩
    | true =>
     cases z with
     | false =>
      go_wp2;go_ret;exact⟨by rw[i.out];simp,a⟩
     | true =>
      cases y with
      | false =>
       go_wp2;go_ret;exact⟨by rw[i.out];simp,a⟩
      | true =>
       cases bp with
       | false =>
        go_wp2;go_ret;exact⟨by rw[i.out];simp,a⟩
       | true =>
        cases u with
        | false =>
         go_wp2;go_ret;exact⟨by rw[i.out];simp,a⟩
        | true =>
         cases v with
         | false =>
          go_wp2;go_ret;exact⟨by rw[i.out];simp,a⟩
         | true =>
          go_wp2;go_ret;exact⟨by rw[i.out];rfl,a⟩
theorem specOp_7 (own:ByteArray)(name:Int)(k:Option Addr)(lgn l:Nat)(lg:Nat->Int)(pe len hei cl:Int)(all:Bool)(be unt now:Int)(w:World)(d:own.size<=1000000000000000) :
  Calls prog 159 #[.agg #[int i64 7,own,name,(k,lgn,l),pe,len,hei,cl,all,be,unt,now]] w λe w'=>e=.returned (.bool (decide (zac ⟨7,own,name,lgn,lg,pe,len,hei,cl,all,be,unt,now⟩)))/\Below w.heap.size w w':=by
 obtain⟨R,C⟩:∃ R,R=decide (zac ⟨7,own,name,lgn,lg,pe,len,hei,cl,all,be,unt,now⟩):=⟨_,rfl⟩;rw[← C];obtain⟨bo,p⟩:∃ b,b=decide (ZS 7 own):=⟨_,rfl⟩;obtain⟨A,o⟩:∃ b,b=decide (Qs 7 name):=⟨_,rfl⟩;obtain⟨z,n⟩:∃ b,b=decide (qi 7 lgn):=⟨_,rfl⟩;obtain⟨bp,q⟩:∃ b,b=decide (qA 7 ⟨pe,len,hei,cl,all,be⟩):=⟨_,rfl⟩;obtain⟨v,r⟩:∃ b,b=decide (Qm 7 unt):=⟨_,rfl⟩;obtain⟨x,s⟩:∃ b,b=decide (zbW 7 now):=⟨_,rfl⟩;have j:Hid (R=(bo && A && z && bp && v && x)):=by
  show R=_
  rw[C,p,o,n,q,r,s];exact Q8 (by unfold In;omega)
 clear C;have P:decide (Zg own)=bo:=by rw[p];exact decide_eq_decide.2 (by unfold ZS;simp)
 have O:decide (In name 1 30)=A:=by rw[o];exact decide_eq_decide.2 (by unfold Qs In;simp)
 have N:((lgn:Int) == 0)=z:=by rw[n,zey];exact decide_eq_decide.2 (by unfold qi zJ;simp)
 have J:=hI q;have F:=hI r;have G:=hI s;clear p o n q r s;have d9:decide (In 7 1 9)=true:=by decide
 have dn:decide (In 7 4 8)=true:=by decide
 have dl:decide (zJ 7)=false:=by decide
 have m:Below _ w (w.alloc (.cells #[int i64 7,own,name,(k,lgn,l),pe,len,hei,cl,all,be,unt,now] 47)):=zk bZ _;have y:=Jb w (.cells #[int i64 7,own,name,(k,lgn,l),pe,len,hei,cl,all,be,unt,now] 47);go_enter func159,ntmps159;go_upto_region 11 with(first|(go_at_call 148;refine sC (zt _ _ _ _) ?_)|(go_at_call 162;refine sC (zO _ _) ?_)|(go_at_call 160;refine sC (zV _ _) ?_)|(go_at_call 156;refine sC (qS _ _ d) ?_))
 generalize w.alloc _=W at m y ⊢;obtain⟨S,T,U,V,X,Y,Z,y7,y8,y9,D,E⟩:=zeW y;go_cut [7] (λc u=>c=.bool (PZ pe len hei cl all be)/\u=W)
 case first =>
  by_cases gpe:pe=0
  ·subst gpe
   by_cases glen:len=0
   ·subst glen
    by_cases ghei:hei=0
    ·subst ghei
     by_cases gcl:cl=0
     ·subst gcl
      cases all with
      | true =>
       have i:PZ 0 0 0 0 true be=false:=Zw (λh=>by cases h.2.2.2.2.1)
       go_wp2;go_meet;exact⟨by rw[i],rfl⟩
      | false =>
       by_cases gbe:be=0
       ·subst gbe
        go_wp2;go_meet;exact⟨rfl,rfl⟩
       ·have L:(be == 0)=false:=by simpa using gbe
        have i:PZ 0 0 0 0 false be=false:=Zw (λh=>gbe h.2.2.2.2.2)
        go_wp2;go_meet;exact⟨by rw[i],rfl⟩
     ·have M:(cl == 0)=false:=by simpa using gcl
      have i:PZ 0 0 0 cl all be=false:=Zw (λh=>gcl h.2.2.2.1)
      go_wp2;go_meet;exact⟨by rw[i],rfl⟩
    ·have H:(hei == 0)=false:=by simpa using ghei
     have i:PZ 0 0 hei cl all be=false:=Zw (λh=>ghei h.2.2.1)
     go_wp2;go_meet;exact⟨by rw[i],rfl⟩
   ·have I:(len == 0)=false:=by simpa using glen
    have i:PZ 0 len hei cl all be=false:=Zw (λh=>glen h.2.1)
    go_wp2;go_meet;exact⟨by rw[i],rfl⟩
  ·have Q:(pe == 0)=false:=by simpa using gpe
   have i:PZ pe len hei cl all be=false:=Zw (λh=>gpe h.1)
   go_wp2;go_meet;exact⟨by rw[i],rfl⟩
 case rest =>
  obtain⟨rfl,t⟩:=hcut;have t:=t.symm;subst t;obtain rfl:PZ pe len hei cl all be=bp:=by rw[J.out];exact zby (by unfold zJ;omega)
  generalize PZ pe len hei cl all be=bp at *;have a:=m;clear m y;go_upto_region 17 with(first|(go_at_call 148;refine sC (zt _ _ _ _) ?_)|(go_at_call 162;refine sC (zO _ _) ?_)|(go_at_call 160;refine sC (zV _ _) ?_)|(go_at_call 156;refine sC (qS _ _ d) ?_))
  go_cut [8] (λc u=>c=.bool v/\u=W)
  case first =>
   by_cases u0:unt=0
   ·subst u0
    go_wp2;go_meet;exact⟨by rw[F.out,Jd (.inl rfl)],rfl⟩
   ·have K:(unt == 0)=false:=by simpa using u0
    have B:v=false:=by rw[F.out];exact Jc (λh=>by rcases h with h|h;exact u0 h;exact absurd h.1 (by decide))
    go_wp2;go_meet;exact⟨by rw[B],rfl⟩
  case rest =>
   obtain⟨rfl,f⟩:=hcut;have f:=f.symm;subst f;go_upto_region 18 with(first|(go_at_call 148;refine sC (zt _ _ _ _) ?_)|(go_at_call 162;refine sC (zO _ _) ?_)|(go_at_call 160;refine sC (zV _ _) ?_)|(go_at_call 156;refine sC (qS _ _ d) ?_))
   go_cut [9] (λc u=>c=.bool x/\u=W)
   case first =>
    by_cases u0:now=0
    ·subst u0
     go_wp2;go_meet;exact⟨by rw[G.out,Jd (.inl rfl)],rfl⟩
    ·have K:(now == 0)=false:=by simpa using u0
     have B:x=false:=by rw[G.out];exact Jc (λh=>by rcases h with h|h;exact u0 h;exact absurd h.1 (by decide))
     go_wp2;go_meet;exact⟨by rw[B],rfl⟩
   case rest =>
    obtain⟨rfl,g⟩:=hcut;have g:=g.symm;subst g;clear P O N S T U V X Y Z y7 y8 y9 D E
    cases bo with
    | false =>
     go_wp2;go_ret;exact⟨by rw[j.out];simp,a⟩
    | true =>
     cases A with
     | false =>
      go_wp2;go_ret;exact⟨by rw[j.out];simp,a⟩
     | true =>
      cases z with
      | false =>
       go_wp2;go_ret;exact⟨by rw[j.out];simp,a⟩
      | true =>
       cases bp with
       | false =>
        go_wp2;go_ret;exact⟨by rw[j.out];simp,a⟩
       | true =>
        cases v with
        | false =>
         go_wp2;go_ret;exact⟨by rw[j.out];simp,a⟩
        | true =>
         cases x with
         | false =>
          go_wp2;go_ret;exact⟨by rw[j.out];simp,a⟩
         | true =>
          go_wp2;go_ret;exact⟨by rw[j.out];rfl,a⟩
theorem specOp_8 (own:ByteArray)(name:Int)(j:Option Addr)(lgn k:Nat)(lg:Nat->Int)(pe len hei cl:Int)(all:Bool)(be unt now:Int)(w:World)(_:own.size<=1000000000000000) :
  Calls prog 159 #[.agg #[int i64 8,own,name,(j,lgn,k),pe,len,hei,cl,all,be,unt,now]] w λe w'=>e=.returned (.bool (decide (zac ⟨8,own,name,lgn,lg,pe,len,hei,cl,all,be,unt,now⟩)))/\Below w.heap.size w w':=by
 obtain⟨R,A⟩:∃ R,R=decide (zac ⟨8,own,name,lgn,lg,pe,len,hei,cl,all,be,unt,now⟩):=⟨_,rfl⟩;rw[← A];obtain⟨bo,o⟩:∃ b,b=decide (ZS 8 own):=⟨_,rfl⟩;obtain⟨z,n⟩:∃ b,b=decide (Qs 8 name):=⟨_,rfl⟩;obtain⟨y,m⟩:∃ b,b=decide (qi 8 lgn):=⟨_,rfl⟩;obtain⟨bp,p⟩:∃ b,b=decide (qA 8 ⟨pe,len,hei,cl,all,be⟩):=⟨_,rfl⟩;obtain⟨u,q⟩:∃ b,b=decide (Qm 8 unt):=⟨_,rfl⟩;obtain⟨v,r⟩:∃ b,b=decide (zbW 8 now):=⟨_,rfl⟩;have i:Hid (R=(bo && z && y && bp && u && v)):=by
  show R=_
  rw[A,o,n,m,p,q,r];exact Q8 (by unfold In;omega)
 clear A;have O:own.toList.isEmpty=bo:=by rw[o,zap own (by omega)]
 have N:decide (In name 1 30)=z:=by rw[n];exact decide_eq_decide.2 (by unfold Qs In;simp)
 have M:((lgn:Int) == 0)=y:=by rw[m,zey];exact decide_eq_decide.2 (by unfold qi zJ;simp)
 have I:=hI p;have D:=hI q;have E:=hI r;clear o n m p q r;have d9:decide (In 8 1 9)=true:=by decide
 have dn:decide (In 8 4 8)=true:=by decide
 have dl:decide (zJ 8)=false:=by decide
 have l:Below _ w (w.alloc (.cells #[int i64 8,own,name,(j,lgn,k),pe,len,hei,cl,all,be,unt,now] 47)):=zk bZ _;have x:=Jb w (.cells #[int i64 8,own,name,(j,lgn,k),pe,len,hei,cl,all,be,unt,now] 47);go_enter func159,ntmps159;go_upto_region 11 with(first|(go_at_call 148;refine sC (zt _ _ _ _) ?_)|(go_at_call 162;refine sC (zO _ _) ?_)|(go_at_call 160;refine sC (zV _ _) ?_))
 generalize w.alloc _=W at l x ⊢;obtain⟨Q,S,T,U,V,X,Y,Z,y8,y9,B,C⟩:=zeW x;go_cut [7] (λc t=>c=.bool (PZ pe len hei cl all be)/\t=W)
 case first =>
  by_cases gpe:pe=0
  ·subst gpe
   by_cases glen:len=0
   ·subst glen
    by_cases ghei:hei=0
    ·subst ghei
     by_cases gcl:cl=0
     ·subst gcl
      cases all with
      | true =>
       have g:PZ 0 0 0 0 true be=false:=Zw (λh=>by cases h.2.2.2.2.1)
       go_wp2;go_meet;exact⟨by rw[g],rfl⟩
      | false =>
       by_cases gbe:be=0
       ·subst gbe
        go_wp2;go_meet;exact⟨rfl,rfl⟩
       ·have K:(be == 0)=false:=by simpa using gbe
        have g:PZ 0 0 0 0 false be=false:=Zw (λh=>gbe h.2.2.2.2.2)
        go_wp2;go_meet;exact⟨by rw[g],rfl⟩
     ·have L:(cl == 0)=false:=by simpa using gcl
      have g:PZ 0 0 0 cl all be=false:=Zw (λh=>gcl h.2.2.2.1)
      go_wp2;go_meet;exact⟨by rw[g],rfl⟩
    ·have F:(hei == 0)=false:=by simpa using ghei
     have g:PZ 0 0 hei cl all be=false:=Zw (λh=>ghei h.2.2.1)
     go_wp2;go_meet;exact⟨by rw[g],rfl⟩
   ·have G:(len == 0)=false:=by simpa using glen
    have g:PZ 0 len hei cl all be=false:=Zw (λh=>glen h.2.1)
    go_wp2;go_meet;exact⟨by rw[g],rfl⟩
  ·have P:(pe == 0)=false:=by simpa using gpe
   have g:PZ pe len hei cl all be=false:=Zw (λh=>gpe h.1)
   go_wp2;go_meet;exact⟨by rw[g],rfl⟩
 case rest =>
  obtain⟨rfl,s⟩:=hcut;have s:=s.symm;subst s;obtain rfl:PZ pe len hei cl all be=bp:=by rw[I.out];exact zby (by unfold zJ;omega)
  generalize PZ pe len hei cl all be=bp at *;have a:=l;clear l x;go_upto_region 17 with(first|(go_at_call 148;refine sC (zt _ _ _ _) ?_)|(go_at_call 162;refine sC (zO _ _) ?_)|(go_at_call 160;refine sC (zV _ _) ?_))
  go_cut [8] (λc t=>c=.bool u/\t=W)
  case first =>
   by_cases u0:unt=0
   ·subst u0
    go_wp2;go_meet;exact⟨by rw[D.out,Jd (.inl rfl)],rfl⟩
   ·have J:(unt == 0)=false:=by simpa using u0
    have H:u=false:=by rw[D.out];exact Jc (λh=>by rcases h with h|h;exact u0 h;exact absurd h.1 (by decide))
    go_wp2;go_meet;exact⟨by rw[H],rfl⟩
  case rest =>
   obtain⟨rfl,d⟩:=hcut;have d:=d.symm;subst d;go_upto_region 18 with(first|(go_at_call 148;refine sC (zt _ _ _ _) ?_)|(go_at_call 162;refine sC (zO _ _) ?_)|(go_at_call 160;refine sC (zV _ _) ?_))
   go_cut [9] (λc t=>c=.bool v/\t=W)
   case first =>
    by_cases u0:now=0
    ·subst u0
     go_wp2;go_meet;exact⟨by rw[E.out,Jd (.inl rfl)],rfl⟩
    ·have J:(now == 0)=false:=by simpa using u0
     have H:decide (In now 0 10000)=v:=by rw[E.out];exact decide_eq_decide.2 ⟨λh=>.inr ⟨.inl rfl,h⟩,λh=>by rcases h with h|h;exact absurd h u0;exact h.2⟩
     go_wp2_with (first|(go_at_call 148;refine sC (zt _ _ _ _) ?_)|(go_at_call 162;refine sC (zO _ _) ?_)|(go_at_call 160;refine sC (zV _ _) ?_))
     go_meet;exact⟨rfl,rfl⟩
   case rest =>
    obtain⟨rfl,f⟩:=hcut;have f:=f.symm;subst f;clear O N M Q S T U V X Y Z y8 y9 B C
    cases bo with
    | false =>
     go_wp2;go_ret;exact⟨by rw[i.out];simp,a⟩
    | true =>
     cases z with
     | false =>
      go_wp2;go_ret;exact⟨by rw[i.out];simp,a⟩
     | true =>
      cases y with
      | false =>
       go_wp2;go_ret;exact⟨by rw[i.out];simp,a⟩
      | true =>
       cases bp with
       | false =>
        go_wp2;go_ret;exact⟨by rw[i.out];simp,a⟩
       | true =>
        cases u with
        | false =>
         go_wp2;go_ret;exact⟨by rw[i.out];simp,a⟩
        | true =>
         cases v with
         | false =>
          go_wp2;go_ret;exact⟨by rw[i.out];simp,a⟩
         | true =>
          go_wp2;go_ret;exact⟨by rw[i.out];rfl,a⟩
theorem specOp_9 (own:ByteArray)(name:Int)(j:Option Addr)(lgn k:Nat)(lg:Nat->Int)(pe len hei cl:Int)(all:Bool)(be unt now:Int)(w:World)(_:own.size<=1000000000000000) :
  Calls prog 159 #[.agg #[int i64 9,own,name,(j,lgn,k),pe,len,hei,cl,all,be,unt,now]] w λe w'=>e=.returned (.bool (decide (zac ⟨9,own,name,lgn,lg,pe,len,hei,cl,all,be,unt,now⟩)))/\Below w.heap.size w w':=by
 obtain⟨R,B⟩:∃ R,R=decide (zac ⟨9,own,name,lgn,lg,pe,len,hei,cl,all,be,unt,now⟩):=⟨_,rfl⟩;rw[← B];obtain⟨bo,o⟩:∃ b,b=decide (ZS 9 own):=⟨_,rfl⟩;obtain⟨z,n⟩:∃ b,b=decide (Qs 9 name):=⟨_,rfl⟩;obtain⟨y,m⟩:∃ b,b=decide (qi 9 lgn):=⟨_,rfl⟩;obtain⟨bp,p⟩:∃ b,b=decide (qA 9 ⟨pe,len,hei,cl,all,be⟩):=⟨_,rfl⟩;obtain⟨u,q⟩:∃ b,b=decide (Qm 9 unt):=⟨_,rfl⟩;obtain⟨v,r⟩:∃ b,b=decide (zbW 9 now):=⟨_,rfl⟩;have i:Hid (R=(bo && z && y && bp && u && v)):=by
  show R=_
  rw[B,o,n,m,p,q,r];exact Q8 (by unfold In;omega)
 clear B;have O:own.toList.isEmpty=bo:=by rw[o,zap own (by omega)]
 have N:(name == 0)=z:=by rw[n,zds _ (by unfold In;omega)]
 have M:((lgn:Int) == 1)=y:=by rw[m,int_one];exact decide_eq_decide.2 (by unfold qi zJ;simp)
 have I:=hI p;have E:=hI q;have F:=hI r;clear o n m p q r;have d9:decide (In 9 1 9)=true:=by decide
 have dn:decide (In 9 4 8)=false:=by decide
 have dl:decide (zJ 9)=false:=by decide
 have l:Below _ w (w.alloc (.cells #[int i64 9,own,name,(j,lgn,k),pe,len,hei,cl,all,be,unt,now] 47)):=zk bZ _;have x:=Jb w (.cells #[int i64 9,own,name,(j,lgn,k),pe,len,hei,cl,all,be,unt,now] 47);go_enter func159,ntmps159;go_upto_region 11 with(first|(go_at_call 148;refine sC (zt _ _ _ _) ?_)|(go_at_call 162;refine sC (zO _ _) ?_)|(go_at_call 160;refine sC (zV _ _) ?_))
 generalize w.alloc _=W at l x ⊢;obtain⟨Q,S,T,U,V,X,Y,Z,y8,y9,C,D⟩:=zeW x;go_cut [7] (λc t=>c=.bool (PZ pe len hei cl all be)/\t=W)
 case first =>
  by_cases gpe:pe=0
  ·subst gpe
   by_cases glen:len=0
   ·subst glen
    by_cases ghei:hei=0
    ·subst ghei
     by_cases gcl:cl=0
     ·subst gcl
      cases all with
      | true =>
       have g:PZ 0 0 0 0 true be=false:=Zw (λh=>by cases h.2.2.2.2.1)
       go_wp2;go_meet;exact⟨by rw[g],rfl⟩
      | false =>
       by_cases gbe:be=0
       ·subst gbe
        go_wp2;go_meet;exact⟨rfl,rfl⟩
       ·have K:(be == 0)=false:=by simpa using gbe
        have g:PZ 0 0 0 0 false be=false:=Zw (λh=>gbe h.2.2.2.2.2)
        go_wp2;go_meet;exact⟨by rw[g],rfl⟩
     ·have L:(cl == 0)=false:=by simpa using gcl
      have g:PZ 0 0 0 cl all be=false:=Zw (λh=>gcl h.2.2.2.1)
      go_wp2;go_meet;exact⟨by rw[g],rfl⟩
    ·have G:(hei == 0)=false:=by simpa using ghei
     have g:PZ 0 0 hei cl all be=false:=Zw (λh=>ghei h.2.2.1)
     go_wp2;go_meet;exact⟨by rw[g],rfl⟩
   ·have H:(len == 0)=false:=by simpa using glen
    have g:PZ 0 len hei cl all be=false:=Zw (λh=>glen h.2.1)
    go_wp2;go_meet;exact⟨by rw[g],rfl⟩
  ·have P:(pe == 0)=false:=by simpa using gpe
   have g:PZ pe len hei cl all be=false:=Zw (λh=>gpe h.1)
   go_wp2;go_meet;exact⟨by rw[g],rfl⟩
 case rest =>
  obtain⟨rfl,s⟩:=hcut;have s:=s.symm;subst s;obtain rfl:PZ pe len hei cl all be=bp:=by rw[I.out];exact zby (by unfold zJ;omega)
  generalize PZ pe len hei cl all be=bp at *;have a:=l;clear l x;go_upto_region 17 with(first|(go_at_call 148;refine sC (zt _ _ _ _) ?_)|(go_at_call 162;refine sC (zO _ _) ?_)|(go_at_call 160;refine sC (zV _ _) ?_))
  go_cut [8] (λc t=>c=.bool u/\t=W)
  case first =>
   by_cases u0:unt=0
   ·subst u0
    go_wp2;go_meet;exact⟨by rw[E.out,Jd (.inl rfl)],rfl⟩
   ·have J:(unt == 0)=false:=by simpa using u0
    have A:u=false:=by rw[E.out];exact Jc (λh=>by rcases h with h|h;exact u0 h;exact absurd h.1 (by decide))
    go_wp2;go_meet;exact⟨by rw[A],rfl⟩
  case rest =>
   obtain⟨rfl,d⟩:=hcut;have d:=d.symm;subst d;go_upto_region 18 with(first|(go_at_call 148;refine sC (zt _ _ _ _) ?_)|(go_at_call 162;refine sC (zO _ _) ?_)|(go_at_call 160;refine sC (zV _ _) ?_))
   go_cut [9] (λc t=>c=.bool v/\t=W)
   case first =>
    by_cases u0:now=0
    ·subst u0
     go_wp2;go_meet;exact⟨by rw[F.out,Jd (.inl rfl)],rfl⟩
    ·have J:(now == 0)=false:=by simpa using u0
     have A:v=false:=by rw[F.out];exact Jc (λh=>by rcases h with h|h;exact u0 h;exact absurd h.1 (by decide))
     go_wp2;go_meet;exact⟨by rw[A],rfl⟩
   case rest =>
    obtain⟨rfl,f⟩:=hcut;have f:=f.symm;subst f;clear O N M Q S T U V X Y Z y8 y9 C D
    cases bo with
    | false =>
     go_wp2;go_ret;exact⟨by rw[i.out];simp,a⟩
    | true =>
     cases z with
     | false =>
      go_wp2;go_ret;exact⟨by rw[i.out];simp,a⟩
     | true =>
      cases y with
      | false =>
       go_wp2;go_ret;exact⟨by rw[i.out];simp,a⟩
      | true =>
       cases bp with
       | false =>
        go_wp2;go_ret;exact⟨by rw[i.out];simp,a⟩
       | true =>
        cases u with
        | false =>
         go_wp2;go_ret;exact⟨by rw[i.out];simp,a⟩
        | true =>
         cases v with
         | false =>
          go_wp2;go_ret;exact⟨by rw[i.out];simp,a⟩
         | true =>
          go_wp2;go_ret;exact⟨by rw[i.out];rfl,a⟩
theorem zlZ (kind:Int)(own:ByteArray)(name:Int)(a:Option Addr)(lgn b:Nat)(lg:Nat->Int)(pe len hei cl:Int)(all:Bool)(be unt now:Int)(w:World)(c:¬ In kind 1 9) :
  Calls prog 159 #[.agg #[kind,own,name,(a,lgn,b),pe,len,hei,cl,all,be,unt,now]] w λe w'=>e=.returned (.bool (decide (zac ⟨kind,own,name,lgn,lg,pe,len,hei,cl,all,be,unt,now⟩)))/\Below w.heap.size w w':=by
 rw[Jc (show _ from λh=>c h.1)]
 have x9:=Jc c;clear c;go_enter func159,ntmps159;go_wp2_with (first|(go_at_call 148;refine sC (zt _ _ _ _) ?_))
 go_ret;exact⟨rfl,zk bZ _⟩
theorem znD (cs:List Value)(x:OpD)(w:World)(c:x.own.size<=1000000000000000)(h:OpD.Is w cs x) :
  Calls prog 159 #[.agg cs.toArray] w λe w'=>e=.returned (.bool (decide (zac x)))/\Below w.heap.size w w':=by
 obtain⟨a,b,rfl,_,_⟩:=h;obtain⟨kind,own,name,lgn,lg,pe,len,hei,cl,all,be,unt,now⟩:=x
 by_cases k9:In kind 1 9
 ·have h9:kind=1∨kind=2∨kind=3∨kind=4∨kind=5∨kind=6∨kind=7∨kind=8∨kind=9:=by unfold In at k9;omega
  rcases h9 with rfl|rfl|rfl|rfl|rfl|rfl|rfl|rfl|rfl
  ·exact specOp_1 own _ a lgn b lg pe len hei cl all be unt now w c
  ·exact specOp_2 own _ a lgn b lg pe len hei cl all be unt now w c
  ·exact specOp_3 own _ a lgn b lg pe len hei cl all be unt now w c
  ·exact specOp_4 own _ a lgn b lg pe len hei cl all be unt now w c
  ·exact specOp_5 own _ a lgn b lg pe len hei cl all be unt now w c
  ·exact specOp_6 own _ a lgn b lg pe len hei cl all be unt now w c
  ·exact specOp_7 own _ a lgn b lg pe len hei cl all be unt now w c
  ·exact specOp_8 own _ a lgn b lg pe len hei cl all be unt now w c
  ·exact specOp_9 own _ a lgn b lg pe len hei cl all be unt now w c
 ·exact zlZ _ own _ a lgn b lg pe len hei cl all be unt now w k9
def ziX (x d a mo:Int)(fr tt:ByteArray)(n m:Nat):Prop :=
 In x 1 99/\Zg fr/\Zg tt/\fr≠tt/\In d 0 10000/\In a (d+1) 10000/\n<=4/\m<=6/\In mo 0 500
theorem zkN {x d a mo:Int}{fr tt:ByteArray}{n m:Nat}{c e:zH}(l:c.n=n)(o:e.n=m):Zf ⟨x,fr,tt,d,a,c,e,mo⟩↔ziX x d a mo fr tt n m/\(∀ k,k<n->In (c.A k) 1 5000/\In (c.B k) 100 500)/\(∀ k,k<m->In (e.A k) 1 3/\In (e.B k) 1 4):=by
 subst l o;unfold Zf ziX zaZ In;simp only
 constructor
 ·rintro⟨h1,h2,h3,g,h,j,i,h8,h9,b⟩
  exact⟨⟨h1,h2,h3,g,⟨h,by omega⟩,⟨by omega,i⟩,h8.1,h9.1,b⟩,h8.2,h9.2⟩
 ·rintro⟨⟨h1,h2,h3,g,h,j,i,h8,h9⟩,b,f⟩
  exact⟨h1,h2,h3,g,h.1,by omega,j.2,⟨i,b⟩,⟨h8,f⟩,h9⟩
theorem zaE (x d a mo:Int)(fr tt:ByteArray)(lo D:Option Addr)(n m c1 c2:Nat)(B C:zH)(w:World)(y:B.n=n)(z:C.n=m)(f:fr.size<=1000000000000000)(g:tt.size<=1000000000000000)(hn:n<=1048576)(hm:m<=1048576)(Y:zG w lo B)(Z:zG w D C) :
  Calls prog 146 #[.agg #[x,fr,tt,d,a,(lo,n,c1),(D,m,c2),mo]] w λe w'=>qX (Zf ⟨x,fr,tt,d,a,B,C,mo⟩) e/\Below w.heap.size w w':=by
 have c:Below _ w (w.alloc (.cells #[x,fr,tt,d,a,(lo,n,c1),(D,m,c2),mo] 140)):=zk bZ _;have R:=Jb w (.cells #[x,fr,tt,d,a,(lo,n,c1),(D,m,c2),mo] 140);have V:=hI y;have W:=hI z;have E:=zkN (x:=x) (d:=d) (a:=a) (mo:=mo) (fr:=fr) (tt:=tt) y z;have r:=hI E;clear y z E
 by_cases g1:In x 1 99
 case neg =>
  have F:=Jc g1;have l:Hid (¬ _):=λh=>g1 ((λh=>h.1) (r.1 h).1)
  clear g1;go_enter func146,ntmps146;go_wp2_with (first|(go_at_call 148;refine sC (zt _ _ _ _) ?_)|(go_at_call 156;refine sC (qS _ _ (by first|exact f|exact g)) ?_))
  go_ret;exact⟨zl l,c⟩
 have F:=Jd g1
 by_cases g2:Zg fr
 case neg =>
  have G:=Jc g2;have l:Hid (¬ _):=λh=>g2 ((λh=>h.2.1) (r.1 h).1)
  clear g1 g2;go_enter func146,ntmps146;go_wp2_with (first|(go_at_call 148;refine sC (zt _ _ _ _) ?_)|(go_at_call 156;refine sC (qS _ _ (by first|exact f|exact g)) ?_))
  go_ret;exact⟨zl l,c⟩
 have G:=Jd g2
 by_cases g3:Zg tt
 case neg =>
  have H:=Jc g3;have l:Hid (¬ _):=λh=>g3 ((λh=>h.2.2.1) (r.1 h).1)
  clear g1 g2 g3;go_enter func146,ntmps146;go_wp2_with (first|(go_at_call 148;refine sC (zt _ _ _ _) ?_)|(go_at_call 156;refine sC (qS _ _ (by first|exact f|exact g)) ?_))
  go_ret;exact⟨zl l,c⟩
 have H:=Jd g3
 by_cases g4:fr≠tt
 case neg =>
  have I:=zet.2 (by simpa using g4)
  have l:Hid (¬ _):=λh=>g4 ((λh=>h.2.2.2.1) (r.1 h).1)
  clear g1 g2 g3 g4;go_enter func146,ntmps146;go_wp2_with (first|(go_at_call 148;refine sC (zt _ _ _ _) ?_)|(go_at_call 156;refine sC (qS _ _ (by first|exact f|exact g)) ?_))
  go_ret;exact⟨zl l,c⟩
 have I:=zga.2 g4
 by_cases g5:In d 0 10000
 case neg =>
  have J:=Jc g5;have l:Hid (¬ _):=λh=>g5 ((λh=>h.2.2.2.2.1) (r.1 h).1)
  clear g1 g2 g3 g4 g5;go_enter func146,ntmps146;go_wp2_with (first|(go_at_call 148;refine sC (zt _ _ _ _) ?_)|(go_at_call 156;refine sC (qS _ _ (by first|exact f|exact g)) ?_))
  go_ret;exact⟨zl l,c⟩
 have J:=Jd g5;have Q:IntKind.i64.wrap (d+1)=d+1:=by have:=g5.1;have:=g5.2;rw[Jk];omega
 by_cases g6:In a (d+1) 10000
 case neg =>
  have K:=Jc g6;have l:Hid (¬ _):=λh=>g6 ((λh=>h.2.2.2.2.2.1) (r.1 h).1)
  clear g1 g2 g3 g4 g5 g6;go_enter func146,ntmps146;go_wp2_with (first|(go_at_call 148;refine sC (zt _ _ _ _) ?_)|(go_at_call 156;refine sC (qS _ _ (by first|exact f|exact g)) ?_))
  go_ret;exact⟨zl l,c⟩
 have K:=Jd g6
 by_cases g7:n<=4
 case neg =>
  have L:decide (4<n)=true:=by simp;omega
  have l:Hid (¬ _):=λh=>g7 ((λh=>h.2.2.2.2.2.2.1) (r.1 h).1)
  clear g1 g2 g3 g4 g5 g6;go_enter func146,ntmps146;go_wp2_with (first|(go_at_call 148;refine sC (zt _ _ _ _) ?_)|(go_at_call 156;refine sC (qS _ _ (by first|exact f|exact g)) ?_))
  go_ret;exact⟨zl l,c⟩
 have L:decide (4<n)=false:=by simp;omega
 by_cases g8:m<=6
 case neg =>
  have M:decide (6<m)=true:=by simp;omega
  have l:Hid (¬ _):=λh=>g8 ((λh=>h.2.2.2.2.2.2.2.1) (r.1 h).1)
  clear g1 g2 g3 g4 g5 g6;go_enter func146,ntmps146;go_wp2_with (first|(go_at_call 148;refine sC (zt _ _ _ _) ?_)|(go_at_call 156;refine sC (qS _ _ (by first|exact f|exact g)) ?_))
  go_ret;exact⟨zl l,c⟩
 have M:decide (6<m)=false:=by simp;omega
 by_cases g9:In mo 0 500
 case neg =>
  have N:=Jc g9;have l:Hid (¬ _):=λh=>g9 ((λh=>h.2.2.2.2.2.2.2.2) (r.1 h).1)
  clear g1 g2 g3 g4 g5 g6 g9;go_enter func146,ntmps146;go_wp2_with (first|(go_at_call 148;refine sC (zt _ _ _ _) ?_)|(go_at_call 156;refine sC (qS _ _ (by first|exact f|exact g)) ?_))
  go_ret;exact⟨zl l,c⟩
 have N:=Jd g9;have X:Hid (ziX x d a mo fr tt n m):=⟨g1,g2,g3,g4,g5,g6,g7,g8,g9⟩;clear g1 g2 g3 g4 g5 g6 g9;go_enter func146,ntmps146;go_wp2_with (first|(go_at_call 148;refine sC (zt _ _ _ _) ?_)|(go_at_call 156;refine sC (qS _ _ (by first|exact f|exact g)) ?_))
 go_loopw [4,66] (λ_ i wr=>∃ k,k<=n/\i=int i64 k/\(∀ j,j<k->In (B.A j) 1 5000/\In (B.B j) 100 500)/\Below (w.alloc (.cells #[x,fr,tt,d,a,(lo,n,c1),(D,m,c2),mo] 140)).heap.size (w.alloc (.cells #[x,fr,tt,d,a,(lo,n,c1),(D,m,c2),mo] 140)) wr) (λ_ i _=>n - (intOf i).toNat)
 case atStart=>exact⟨0,Jq _,rfl,λj P=>by omega,bZ⟩
 case round =>
  obtain⟨k,hk,rfl,o,s⟩:=hrel;have T:=hI o;have S:=zb R s;have A:=s;have t:=ze c s;clear o F G H I J K L M N Q c R s
  by_cases hlt:k<n
  ·obtain⟨b,off,rfl,h1,h2⟩:=Y k (by rw[V.out];omega)
   have O:=Ja w _ h1;have c1:=(t.cell O).trans h1;have c2:=(t.cell (p:=⟨b,_+1,_⟩) O).trans h2;clear h1 h2
   by_cases g1:In (B.A k) 1 5000
   ·have y:=Jd g1
    by_cases g2:In (B.B k) 100 500
    ·have z:=Jd g2
     have v:Hid (_/\_):=⟨g1,g2⟩;clear g1 g2;go_wp2_with (first|(go_at_call 148;refine sC (zt _ _ _ _) ?_))
     go_roundw
     case rel=>exact⟨k+1,by omega,by go_num,λj P=>by
      by_cases e:j=k
      ·subst e;exact v
      ·exact T j (by omega),zk A _⟩
     case measure=>simp[intOf];omega
    ·have z:=Jc g2
     have v:=hI g2;clear g1 g2;go_wp2_with (first|(go_at_call 148;refine sC (zt _ _ _ _) ?_))
     go_ret;exact⟨zl (λh=>v ((r.1 h).2.1 k hlt).2),zk t _⟩
   ·have y:=Jc g1
    have v:=hI g1;clear g1;go_wp2_with (first|(go_at_call 148;refine sC (zt _ _ _ _) ?_))
    go_ret;exact⟨zl (λh=>v ((r.1 h).2.1 k hlt).1),zk t _⟩
  ·obtain rfl:k=n:=by omega
   have q6:=za S 6 _ rfl;go_wp2;go_loopw [6,84] (λ_ i wx=>∃ k,k<=m/\i=int i64 k/\(∀ j,j<k->In (C.A j) 1 3/\In (C.B j) 1 4)/\Below w.heap.size w wx) (λ_ i _=>m - (intOf i).toNat)
   case atStart=>exact⟨0,Jq _,rfl,λj P=>by omega,t⟩
   case round =>
    obtain⟨q,hq,rfl,o,u⟩:=hrel;have U:=hI o;clear o q6 S t
    by_cases hlt2:q<m
    ·obtain⟨b,off,rfl,h1,h2⟩:=Z q (by rw[W.out];omega)
     have O:=Ja w _ h1;have c1:=(u.cell O).trans h1;have c2:=(u.cell (p:=⟨b,_+1,_⟩) O).trans h2;clear h1 h2
     by_cases g1:In (C.A q) 1 3
     ·have y:=Jd g1
      by_cases g2:In (C.B q) 1 4
      ·have z:=Jd g2
       have v:Hid (_/\_):=⟨g1,g2⟩;clear g1 g2;go_wp2_with (first|(go_at_call 148;refine sC (zt _ _ _ _) ?_))
       go_roundw
       case rel=>exact⟨q+1,by omega,by go_num,λj P=>by
        by_cases e:j=q
        ·subst e;exact v
        ·exact U j (by omega),zk u _⟩
       case measure=>simp[intOf];omega
      ·have z:=Jc g2
       have v:=hI g2;clear g1 g2;go_wp2_with (first|(go_at_call 148;refine sC (zt _ _ _ _) ?_))
       go_ret;exact⟨zl (λh=>v ((r.1 h).2.2 q hlt2).2),zk u _⟩
     ·have y:=Jc g1
      have v:=hI g1;clear g1;go_wp2_with (first|(go_at_call 148;refine sC (zt _ _ _ _) ?_))
      go_ret;exact⟨zl (λh=>v ((r.1 h).2.2 q hlt2).1),zk u _⟩
    ·obtain rfl:q=m:=by omega
     go_wp2;go_ret;exact⟨zR (r.2 ⟨X,T,U⟩),u⟩
theorem zma (E:Option Addr)(N c:Nat)(S:Nat->Zj)(w:World)(hN:N<=1048576)(Q:QL N S 1048576)(T:qB w E N S) :
  Calls prog 81 #[(E,N,c)] w λe w'=>qX (QJ N S) e/\Below w.heap.size w w':=by
 have X:=hI Q;clear Q
 by_cases h6:N<=6
 ·have K:decide (6<N)=false:=by simp;omega
  go_enter func81,ntmps81;go_wp2;go_loopw [3,4,10] (λ_ _ i wr=>∃ k,k<=N/\i=int i64 k/\(∀ j,j<k->Zf (S j)/\(0<j->(S (j - 1)).id<(S j).id))/\Below w.heap.size w wr) (λ_ _ i _=>N - (intOf i).toNat)
  case atStart=>exact⟨0,Jq _,rfl,λj hj=>by omega,bZ⟩
  case round =>
   obtain⟨k,hk,rfl,s,d⟩:=hrel;have H:=hI s;clear s K
   by_cases hlt:k<N
   ·have I:Hid (0<k->∀ b off,E=some ⟨b,off,none⟩->w.cell? ⟨b,off+(k - 1)*8,none⟩=some (int i64 (S (k - 1)).id)):=by
     intro h b off e;obtain⟨b',V,_,_,_,_,F,g,_⟩:=T (k - 1) (by omega)
     rw[e] at F;simp only[Option.some.injEq,Addr.mk.injEq,and_true] at F;obtain⟨rfl,rfl⟩:=F;exact g
    obtain⟨b,off,la,U,ca,J,rfl,L,h1,h2,h3,M,O,y,P,h8,h9,_,_⟩:=T k hlt;have C:=hI (λh=>I h b off rfl)
    clear I;have n:=Ja w _ h1;have Y:=(d.cell (p:=⟨b,off+_,_⟩) n).trans L;have c1:=(d.cell n).trans h1;have c2:=(d.cell (p:=⟨b,_+2,_⟩) n).trans h2;have c3:=(d.cell (p:=⟨b,_+3,_⟩) n).trans h3;have c4:=(d.cell (p:=⟨b,_+4,_⟩) n).trans M;have c5:=(d.cell (p:=⟨b,_+5,_⟩) n).trans O;have c6:=(d.cell (p:=⟨b,_+6,_⟩) n).trans y;have c7:=(d.cell (p:=⟨b,_+7,_⟩) n).trans P;obtain⟨s1,s2,z,A⟩:=X k hlt;have o:(S k).fr.size<=1000000000000000:=by omega
    have q:(S k).dst.size<=1000000000000000:=by omega
    clear s1 s2;have f:=zk d (.cells (S k,la,U,ca,J) 140);have a:=Jb wr (.cells (S k,la,U,ca,J) 140);clear L h1 h2 h3 M O y P;go_upto_region 6 with fail;generalize hW:wr.alloc _=W at f a ⊢;clear hW;have l:=zM a;have z0:∀ g:zn W,_:=λg=>(g.bel.cell l).trans (za a 0 _ rfl)
    have z1:∀ g:zn W,_:=λg=>(g.bel.cell l).trans (za a 1 _ rfl)
    have z2:∀ g:zn W,_:=λg=>(g.bel.cell l).trans (za a 2 _ rfl)
    have z3:∀ g:zn W,_:=λg=>(g.bel.cell l).trans (za a 3 _ rfl)
    have z4:∀ g:zn W,_:=λg=>(g.bel.cell l).trans (za a 4 _ rfl)
    have z5:∀ g:zn W,_:=λg=>(g.bel.cell l).trans (za a 5 _ rfl)
    have z6:∀ g:zn W,_:=λg=>(g.bel.cell l).trans (za a 6 _ rfl)
    have z7:∀ g:zn W,_:=λg=>(g.bel.cell l).trans (za a 7 _ rfl)
    have a0:b<W.heap.size:=Nat.lt_of_lt_of_le n f.size;clear Y c1 c2 c3 c4 c5 c6 c7 a;go_cut [10,32] (λi c wx=>i=int i64 k/\zll (Zf (S k)/\(0<k->(S (k - 1)).id<(S k).id)) c/\Below w.heap.size w wx)
    case first =>
     by_cases hg:Zf (S k)
     ·have r:=hI hg
      clear hg
      by_cases k0:k=0
      ·subst k0
       refine zh (by kernel_rfl) (by kernel_rfl) ?_
       repeat(first|go_big_quiet_skip|(go_big_quiet_want;go_big_quiet_op;first|go_big_quiet_on|(apply Jg;refine⟨λg=>?_,?_⟩;(focus(go_at_call 146;refine zf (v:=.bool true) ((zaE _ _ _ _ _ _ _ _ _ _ _ _ _ _ _ rfl rfl o q z A (h8.below (ze f g.bel)) (h9.below (ze f g.bel))).mono ?_);rintro e G ⟨⟨bb,rfl,x⟩,m⟩;obtain rfl:=x.2 r;exact⟨rfl,m⟩));go_big_quiet_on)))
       refine Jl ?_;rintro _ ⟨g,rfl⟩;go_wp2;go_meet;exact⟨rfl,Q5 ⟨r,λh=>by omega⟩,ze f g.bel⟩
      ·have d0:decide (0<k)=true:=by simp;omega
       have a1:((k:Int) - 1).toNat=k - 1:=by omega
       have a2:(k:Int) - 1<(N:Int):=by omega
       have a3:(0:Int)<=(k:Int) - 1:=by omega
       have a4:IntKind.i64.wrap ((k:Int) - 1)=(k:Int) - 1:=by rw[Jk];omega
       have y0:∀ g:zn W,_:=λg=>((ze f g.bel).cell (p:=⟨b,off+_,_⟩) n).trans (C (by omega))
       by_cases hle:(S k).id<=(S (k - 1)).id
       ·have Z:decide ((S k).id<=(S (k - 1)).id)=true:=by simpa using hle
        refine zh (by kernel_rfl) (by kernel_rfl) ?_
        repeat(first|go_big_quiet_skip|(go_big_quiet_want;go_big_quiet_op;first|go_big_quiet_on|(apply Jg;refine⟨λg=>?_,?_⟩;(focus(go_at_call 146;refine zf (v:=.bool true) ((zaE _ _ _ _ _ _ _ _ _ _ _ _ _ _ _ rfl rfl o q z A (h8.below (ze f g.bel)) (h9.below (ze f g.bel))).mono ?_);rintro e G ⟨⟨bb,rfl,x⟩,m⟩;obtain rfl:=x.2 r;exact⟨rfl,m⟩));go_big_quiet_on)))
        refine Jl ?_;rintro _ ⟨g,rfl⟩;go_wp2;go_meet;exact⟨rfl,QP (λh=>by have:=h.2 (by omega);omega),ze f g.bel⟩
       ·have Z:decide ((S k).id<=(S (k - 1)).id)=false:=by simpa using hle
        refine zh (by kernel_rfl) (by kernel_rfl) ?_
        repeat(first|go_big_quiet_skip|(go_big_quiet_want;go_big_quiet_op;first|go_big_quiet_on|(apply Jg;refine⟨λg=>?_,?_⟩;(focus(go_at_call 146;refine zf (v:=.bool true) ((zaE _ _ _ _ _ _ _ _ _ _ _ _ _ _ _ rfl rfl o q z A (h8.below (ze f g.bel)) (h9.below (ze f g.bel))).mono ?_);rintro e G ⟨⟨bb,rfl,x⟩,m⟩;obtain rfl:=x.2 r;exact⟨rfl,m⟩));go_big_quiet_on)))
        refine Jl ?_;rintro _ ⟨g,rfl⟩;go_wp2;go_meet;exact⟨rfl,Q5 ⟨r,λ_=>by omega⟩,ze f g.bel⟩
     ·have r:=hI hg
      clear hg;refine zh (by kernel_rfl) (by kernel_rfl) ?_
      repeat(first|go_big_quiet_skip|(go_big_quiet_want;go_big_quiet_op;first|go_big_quiet_on|(apply Jg;refine⟨λg=>?_,?_⟩;(focus(go_at_call 146;refine zf (v:=.bool false) ((zaE _ _ _ _ _ _ _ _ _ _ _ _ _ _ _ rfl rfl o q z A (h8.below (ze f g.bel)) (h9.below (ze f g.bel))).mono ?_);rintro e G ⟨⟨bb,rfl,x⟩,m⟩;obtain rfl:=Bool.eq_false_iff.2 (λe=>r (x.1 e));exact⟨rfl,m⟩));go_big_quiet_on)))
      refine Jl ?_;rintro _ ⟨g,rfl⟩;go_wp2;go_meet;exact⟨rfl,QP (λh=>r h.1),ze f g.bel⟩
    case rest =>
     obtain⟨rfl,⟨t,rfl,R⟩,u⟩:=hcut;have D:=hI R;clear R z0 z1 z2 z3 z4 z5 z6 z7
     cases t with
     | true =>
      go_wp2;go_ret;exact⟨zl (λh=>by have:=D.2 (h.2 k hlt);cases this),u⟩
     | false =>
      have B:=D.1 rfl;have B:=hI B;clear D;go_wp2;go_roundw
      case rel=>exact⟨k+1,by omega,by go_num,λj hj=>by
       by_cases e:j=k
       ·subst e;exact B
       ·exact H j (by omega),u⟩
      case measure=>simp[intOf];omega
   ·obtain rfl:k=N:=by omega
    go_wp2;go_ret;exact⟨zR ⟨h6,H⟩,d⟩
 ·have K:decide (6<N)=true:=by simp;omega
  go_enter func81,ntmps81;go_wp2;go_ret;exact⟨zl (λh=>h6 h.1),bZ⟩
theorem Q9 (l:Option Addr)(N c:Nat)(S:Nat->Zj)(x:Int)(w:World)(hN:N<=1048576)(v:qB w l N S) :
  Calls prog 161 #[.slice l N c,int i64 x] w λe w'=>((zW S x N<N/\e=.returned (int i64 (zW S x N)))∨(zW S x N=N/\e=.returned (int i64 (-1))))/\Below w.heap.size w w':=by
 go_enter func161,ntmps161;go_wp2;go_loopw [5,6,9] (λ_ _ i wr=>∃ k,k<=N/\i=int i64 k/\(∀ j,j<k->(S j).id≠x)/\Below w.heap.size w wr) (λ_ _ i _=>N - (intOf i).toNat)
 case atStart=>exact⟨0,Jq _,rfl,λj u=>by omega,bZ⟩
 case round =>
  obtain⟨k,hk,rfl,d,a⟩:=hrel;have h:=hI d;clear d
  by_cases hlt:k<N
  ·obtain⟨b,off,la,lc,ca,cc,rfl,m,h1,h2,h3,n,o,q,r,_,_,_,_⟩:=v k hlt
   have f:=Ja w _ h1;have c0:=(a.cell (p:=⟨b,off+_,_⟩) f).trans m;have c1:=(a.cell f).trans h1;have c2:=(a.cell (p:=⟨b,_+2,_⟩) f).trans h2;have c3:=(a.cell (p:=⟨b,_+3,_⟩) f).trans h3;have c4:=(a.cell (p:=⟨b,_+4,_⟩) f).trans n;have c5:=(a.cell (p:=⟨b,_+5,_⟩) f).trans o;have c6:=(a.cell (p:=⟨b,_+6,_⟩) f).trans q;have c7:=(a.cell (p:=⟨b,_+7,_⟩) f).trans r;clear m h1 h2 h3 n o q r
   by_cases he:(S k).id=x
   ·have t:((S k).id == x)=true:=by simpa using he
    have g:=hI (zkg hlt he h);clear he;go_wp2;go_ret;exact⟨.inl ⟨by rw[g.out];exact hlt,by rw[g.out];rfl⟩,zk a _⟩
   ·have t:((S k).id == x)=false:=by simpa using he
    have s:=hI he;clear he;go_wp2;go_roundw
    case rel=>exact⟨k+1,by omega,by go_num,λj u=>by
     by_cases e:j=k
     ·subst e;exact s
     ·exact h j (by omega),zk a _⟩
    case measure=>simp[intOf];omega
  ·obtain rfl:k=N:=by omega
   have g:=hI (zgD h);go_wp2;go_ret;exact⟨.inr ⟨g,rfl⟩,a⟩
theorem zkO (E bo:Option Addr)(N n c c':Nat)(S:Nat->Zj)(G:Nat->Int)(w:World)(Z:N<=1048576)(hn:n<=1048576)(F:qB w E N S)(hy:zT w bo n G) :
  Calls prog 157 #[(E,N,c),(bo,n,c')] w λe w'=>qX (zad N S n G) e/\Below w.heap.size w w':=by
 by_cases m:In (n:Int) 1 3
 case neg =>
  have R:=Jc m;have HN:Hid (¬ zad N S n G):=λh=>m ⟨by have:=h.1;omega,by have:=h.2.1;omega⟩
  clear m;go_enter func157,ntmps157;go_wp2_with (first|(go_at_call 148;refine sC (zt _ _ _ _) ?_))
  go_ret;exact⟨zl HN,bZ⟩
 have R:=Jd m;have H:Hid (1<=n/\n<=3):=⟨by have:=m.1;omega,by have:=m.2;omega⟩
 have a5:=H.2;clear m;go_enter func157,ntmps157;go_wp2_with (first|(go_at_call 148;refine sC (zt _ _ _ _) ?_))
 go_loopw [5,6,7,8,15] (λ_ _ _ _ i wr=>∃ k,k<=n/\i=int i64 k/\(∀ j,j<k->zkh N S G j)/\Below w.heap.size w wr) (λ_ _ _ _ i _=>n - (intOf i).toNat)
 case atStart=>exact⟨0,Jq _,rfl,λj hj=>by omega,bZ⟩
 case round =>
  obtain⟨k,hk,rfl,q,f⟩:=hrel;have I:=hI q;clear q R
  by_cases hlt:k<n
  ·have P:Hid (0<k->∀ b off,bo=some ⟨b,off,none⟩->w.cell? ⟨b,off+(k - 1),none⟩=some (int i64 (G (k - 1)))):=by
    intro h b off e;obtain⟨b',D,z,g⟩:=hy (k - 1) (by omega)
    rw[e] at z;simp only[Option.some.injEq,Addr.mk.injEq,and_true] at z;obtain⟨rfl,rfl⟩:=z;exact g
   obtain⟨qb,a0,rfl,O⟩:=hy k hlt;have J:=hI (λh=>P h qb _ rfl)
   clear P;have C:=Ja w _ O;have p0:=(f.cell C).trans O;clear O;go_wp2_with fail;refine(Q9 E N c S _ _ Z (F.below f)).mono ?_;rintro e w2 ⟨hr,A⟩;have d:=ze f A;clear A f p0
   rcases hr with⟨s,rfl⟩|⟨s,rfl⟩
   ·obtain⟨x,u⟩:∃ x,x=zW S (G k) N:=⟨_,rfl⟩
    rw[← u] at s ⊢;have Q:=hI u;clear u
    by_cases k0:k=0
    ·subst k0
     have M:decide ((x:Int)<0)=false:=by simp
     go_wp2;go_roundw
     case rel=>exact⟨1,by omega,by go_num,λj hj=>by
      obtain rfl:j=0:=by omega
      exact⟨by rw[← Q.out];exact s,λh=>by omega⟩,d⟩
     case measure=>simp[intOf];omega
    ·have M:decide ((x:Int)<0)=false:=by simp
     have d0:decide (0<k)=true:=by simp;omega
     have a1:((k:Int) - 1).toNat=k - 1:=by omega
     have a2:(k:Int) - 1<(n:Int):=by omega
     have a3:(0:Int)<=(k:Int) - 1:=by omega
     have a4:IntKind.i64.wrap ((k:Int) - 1)=(k:Int) - 1:=by rw[Jk];omega
     have y0:=(d.cell C).trans (J (by omega))
     go_wp2_with fail;refine(Q9 E N c S _ _ Z (F.below d)).mono ?_;rintro e w3 ⟨hr,B⟩;have a:=ze d B;have HP:=hI (I (k - 1) (by omega)).1
     clear B d y0 M d0
     rcases hr with⟨t,rfl⟩|⟨t,rfl⟩
     ·obtain⟨y,v⟩:∃ y,y=zW S (G (k - 1)) N:=⟨_,rfl⟩
      rw[← v] at t ⊢;have HY:=hI v;clear v;have x1:(x:Int)<(N:Int):=by omega
      have x0:(0:Int)<=(x:Int):=by omega
      have y1:(y:Int)<(N:Int):=by omega
      have y0:(0:Int)<=(y:Int):=by omega
      have K:=F x s;obtain⟨b,off,la,lc,ca,cc,rfl,U,h1,h2,h3,V,W,X,Y,_,_,_,_⟩:=F y t;obtain⟨b',D,_,_,_,_,z,g0,T,g2,m,_⟩:=K;simp only[Option.some.injEq,Addr.mk.injEq,and_true] at z;obtain⟨rfl,rfl⟩:=z;have o:=Ja w _ h1;have c0:=(a.cell (p:=⟨b,off+_,_⟩) o).trans U;have c1:=(a.cell o).trans h1;have c2:=(a.cell (p:=⟨b,_+2,_⟩) o).trans h2;have c3:=(a.cell (p:=⟨b,_+3,_⟩) o).trans h3;have c4:=(a.cell (p:=⟨b,_+4,_⟩) o).trans V;have c5:=(a.cell (p:=⟨b,_+5,_⟩) o).trans W;have c6:=(a.cell (p:=⟨b,_+6,_⟩) o).trans X;have c7:=(a.cell (p:=⟨b,_+7,_⟩) o).trans Y;have l:=zk a (.cells (S y,la,lc,ca,cc) 140);have q1:=(l.cell (p:=⟨b,off+x*8+1,_⟩) o).trans T;have q3:=(l.cell (p:=⟨b,_+3,_⟩) o).trans m;clear U h1 h2 h3 V W X Y g0 T g2 m;have r:Hid (((S y).dst=(S x).fr/\(S y).arr<=(S x).dep)↔zkh N S G k):=by
       unfold zkh;rw[← Q.out,← HY.out];exact⟨λh=>⟨s,λ_=>h⟩,λh=>h.2 (by omega)⟩
      by_cases m1:(S y).dst=(S x).fr
      ·have e1:=zet.2 m1
       have L:=hI m1;clear m1
       by_cases m2:(S y).arr<=(S x).dep
       ·have e2:decide ((S x).dep<(S y).arr)=false:=by simpa using m2
        go_wp2;go_quiet (fail);go_wp2;go_roundw
        case rel=>exact⟨k+1,by omega,by go_num,λj hj=>by
         by_cases e:j=k
         ·subst e;exact r.1 ⟨L,m2⟩
         ·exact I j (by omega),dN l _⟩
        case measure=>simp[intOf];omega
       ·have e2:decide ((S x).dep<(S y).arr)=true:=by simpa using m2
        go_wp2;go_quiet (fail);go_wp2;go_ret;exact⟨zl (λh=>by have:=(r.2 (h.2.2 k hlt)).2;omega),dN l _⟩
      ·have e1:=zga.2 m1
       have L:=hI m1;clear m1;go_wp2;go_quiet (fail);go_wp2;go_ret;exact⟨zl (λh=>L (r.2 (h.2.2 k hlt)).1),dN l _⟩
     ·exfalso
      have:=HP.out
      omega
   ·have M:decide ((-1:Int)<0)=true:=rfl
    have HF:=hI s;clear s;go_wp2;go_ret;exact⟨zl (λh=>by have:=(h.2.2 k hlt).1;have:=HF.out;omega),d⟩
  ·obtain rfl:k=n:=by omega
   go_wp2;go_ret;exact⟨zR ⟨H.1,H.2,I⟩,f⟩
end Go.Proofs.YtmdnjgihooflfaaGreatDoor
