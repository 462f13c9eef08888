import Derived.Test.YtgmdnkngnhkgbaaGreatB16
namespace Go.Proofs.YtgmdnkngnhkgbaaGreat
open Go.RowKit
open Go.Value (int)
open Go.IntKind (i64)
set_option maxHeartbeats 64000000
set_option maxRecDepth 1000000
theorem specOp_7 (own:ByteArray)(name:Int)(j:Option Addr)(lgn l:Nat)(lg:Nat->Int)(pe len hei cl:Int)(all:Bool)(be unt now:Int)(w:World)(d:own.size<=1000000000000000) :
  Calls Tryz.prog 122 #[.agg #[int i64 7,.string own,int i64 name,.slice j lgn l,int i64 pe,int i64 len,int i64 hei,int i64 cl,.bool all,int i64 be,int i64 unt,int i64 now]] w fun e w'=>e=.returned (.bool (decide (QZ ⟨7,own,name,lgn,lg,pe,len,hei,cl,all,be,unt,now⟩)))/\Below w.heap.size w w':=by
 obtain⟨R,F⟩:∃ R,R=decide (QZ ⟨7,own,name,lgn,lg,pe,len,hei,cl,all,be,unt,now⟩):=⟨_,rfl⟩;rw[← F];obtain⟨C,q⟩:∃ b,b=decide (Zj 7 own):=⟨_,rfl⟩;obtain⟨B,p⟩:∃ b,b=decide (ZA 7 name):=⟨_,rfl⟩;obtain⟨A,o⟩:∃ b,b=decide (zY 7 lgn):=⟨_,rfl⟩;obtain⟨v,r⟩:∃ b,b=decide (qf 7 ⟨pe,len,hei,cl,all,be⟩):=⟨_,rfl⟩;obtain⟨x,s⟩:∃ b,b=decide (Z7 7 unt):=⟨_,rfl⟩;obtain⟨y,t⟩:∃ b,b=decide (zbu 7 now):=⟨_,rfl⟩;have m:Hid (R=(C && B && A && v && x && y)):=by
  show R=(C && B && A && v && x && y)
  rw[F,q,p,o,r,s,t];exact Zs (k:=7) (by unfold In;omega)
 clear F;have T:decide (qr own)=C:=by rw[q];exact decide_eq_decide.2 (by unfold Zj;simp)
 have S:decide (In name 1 30)=B:=by rw[p];exact decide_eq_decide.2 (by unfold ZA In;simp)
 have Q:((lgn:Int) == 0)=A:=by rw[o,zcr];exact decide_eq_decide.2 (by unfold zY zO;simp)
 have M:=hI r;have I:=hI s;have J:=hI t;clear q p o r s t;have d9:decide (In 7 1 9)=true:=by decide
 have dn:decide (In 7 4 8)=true:=by decide
 have dl:decide (zO 7)=false:=by decide
 have n:Below w.heap.size w (w.alloc (.cells #[int i64 7,.string own,int i64 name,.slice j lgn l,int i64 pe,int i64 len,int i64 hei,int i64 cl,.bool all,int i64 be,int i64 unt,int i64 now] 120)):=zl bZ _;have D:=heap_alloc_new w (.cells #[int i64 7,.string own,int i64 name,.slice j lgn l,int i64 pe,int i64 len,int i64 hei,int i64 cl,.bool all,int i64 be,int i64 unt,int i64 now] 120);go_enter Tryz.func122,Tryz.ntmps122;go_upto_region 11 with(first|(go_at_call 45;refine sC (zo _ _ _ _) ?_)|(go_at_call 100;refine sC (zF _ _) ?_)|(go_at_call 99;refine sC (zL _ _) ?_)|(go_at_call 53;refine sC (qe _ _ d) ?_))
 generalize w.alloc (.cells #[int i64 7,.string own,int i64 name,.slice j lgn l,int i64 pe,int i64 len,int i64 hei,int i64 cl,.bool all,int i64 be,int i64 unt,int i64 now] 120)=W at n D ⊢;obtain⟨V,X,Y,Z,y4,y5,y6,y7,y8,y9,G,H⟩:=ce12 D;go_cut [7] (fun c z=>c=.bool (PZ pe len hei cl all be)/\z=W)
 case first =>
  by_cases gpe:pe=0
  ·subst gpe
   by_cases glen:len=0
   ·subst glen
    by_cases ghei:hei=0
    ·subst ghei
     by_cases gcl:cl=0
     ·subst gcl
      cases all with
      | true =>
       have i:PZ 0 0 0 0 true be=false:=qy (fun h=>by cases h.2.2.2.2.1)
       go_wp2;go_meet;exact⟨by rw[i],rfl⟩
      | false =>
       by_cases gbe:be=0
       ·subst gbe
        go_wp2;go_meet;exact⟨rfl,rfl⟩
       ·have O:(be == 0)=false:=by simpa using gbe
        have i:PZ 0 0 0 0 false be=false:=qy (fun h=>gbe h.2.2.2.2.2)
        go_wp2;go_meet;exact⟨by rw[i],rfl⟩
     ·have P:(cl == 0)=false:=by simpa using gcl
      have i:PZ 0 0 0 cl all be=false:=qy (fun h=>gcl h.2.2.2.1)
      go_wp2;go_meet;exact⟨by rw[i],rfl⟩
    ·have K:(hei == 0)=false:=by simpa using ghei
     have i:PZ 0 0 hei cl all be=false:=qy (fun h=>ghei h.2.2.1)
     go_wp2;go_meet;exact⟨by rw[i],rfl⟩
   ·have L:(len == 0)=false:=by simpa using glen
    have i:PZ 0 len hei cl all be=false:=qy (fun h=>glen h.2.1)
    go_wp2;go_meet;exact⟨by rw[i],rfl⟩
  ·have U:(pe == 0)=false:=by simpa using gpe
   have i:PZ pe len hei cl all be=false:=qy (fun h=>gpe h.1)
   go_wp2;go_meet;exact⟨by rw[i],rfl⟩
 case rest =>
  obtain⟨rfl,u⟩:=hcut;have u:=u.symm;subst u;obtain rfl:PZ pe len hei cl all be=v:=by rw[M.out];exact Q0 (k:=7) (by unfold zO;omega)
  generalize PZ pe len hei cl all be=v at *;have a:=n;clear n D;go_upto_region 17 with(first|(go_at_call 45;refine sC (zo _ _ _ _) ?_)|(go_at_call 100;refine sC (zF _ _) ?_)|(go_at_call 99;refine sC (zL _ _) ?_)|(go_at_call 53;refine sC (qe _ _ d) ?_))
  go_cut [8] (fun c z=>c=.bool x/\z=W)
  case first =>
   by_cases u0:unt=0
   ·subst u0
    go_wp2;go_meet;exact⟨by rw[I.out,decide_eq_true (.inl rfl)],rfl⟩
   ·have N:(unt == 0)=false:=by simpa using u0
    have E:x=false:=by rw[I.out];exact decide_eq_false (fun h=>by rcases h with h|h;exact u0 h;exact absurd h.1 (by decide))
    go_wp2;go_meet;exact⟨by rw[E],rfl⟩
  case rest =>
   obtain⟨rfl,f⟩:=hcut;have f:=f.symm;subst f;go_upto_region 18 with(first|(go_at_call 45;refine sC (zo _ _ _ _) ?_)|(go_at_call 100;refine sC (zF _ _) ?_)|(go_at_call 99;refine sC (zL _ _) ?_)|(go_at_call 53;refine sC (qe _ _ d) ?_))
   go_cut [9] (fun c z=>c=.bool y/\z=W)
   case first =>
    by_cases u0:now=0
    ·subst u0
     go_wp2;go_meet;exact⟨by rw[J.out,decide_eq_true (.inl rfl)],rfl⟩
    ·have N:(now == 0)=false:=by simpa using u0
     have E:y=false:=by rw[J.out];exact decide_eq_false (fun h=>by rcases h with h|h;exact u0 h;exact absurd h.1 (by decide))
     go_wp2;go_meet;exact⟨by rw[E],rfl⟩
   case rest =>
    obtain⟨rfl,g⟩:=hcut;have g:=g.symm;subst g;clear T S Q V X Y Z y4 y5 y6 y7 y8 y9 G H
    cases C with
    | false =>
     go_wp2;go_ret;exact⟨by rw[m.out];simp,a⟩
    | true =>
     cases B with
     | false =>
      go_wp2;go_ret;exact⟨by rw[m.out];simp,a⟩
     | true =>
      cases A with
      | false =>
       go_wp2;go_ret;exact⟨by rw[m.out];simp,a⟩
      | true =>
       cases v with
       | false =>
        go_wp2;go_ret;exact⟨by rw[m.out];simp,a⟩
       | true =>
        cases x with
        | false =>
         go_wp2;go_ret;exact⟨by rw[m.out];simp,a⟩
        | true =>
         cases y with
         | false =>
          go_wp2;go_ret;exact⟨by rw[m.out];simp,a⟩
         | true =>
          go_wp2;go_ret;exact⟨by rw[m.out];rfl,a⟩
theorem specOp_8 (own:ByteArray)(name:Int)(i:Option Addr)(lgn j:Nat)(lg:Nat->Int)(pe len hei cl:Int)(all:Bool)(be unt now:Int)(w:World)(_:own.size<=1000000000000000) :
  Calls Tryz.prog 122 #[.agg #[int i64 8,.string own,int i64 name,.slice i lgn j,int i64 pe,int i64 len,int i64 hei,int i64 cl,.bool all,int i64 be,int i64 unt,int i64 now]] w fun e w'=>e=.returned (.bool (decide (QZ ⟨8,own,name,lgn,lg,pe,len,hei,cl,all,be,unt,now⟩)))/\Below w.heap.size w w':=by
 obtain⟨R,D⟩:∃ R,R=decide (QZ ⟨8,own,name,lgn,lg,pe,len,hei,cl,all,be,unt,now⟩):=⟨_,rfl⟩;rw[← D];obtain⟨B,p⟩:∃ b,b=decide (Zj 8 own):=⟨_,rfl⟩;obtain⟨A,o⟩:∃ b,b=decide (ZA 8 name):=⟨_,rfl⟩;obtain⟨z,n⟩:∃ b,b=decide (zY 8 lgn):=⟨_,rfl⟩;obtain⟨u,q⟩:∃ b,b=decide (qf 8 ⟨pe,len,hei,cl,all,be⟩):=⟨_,rfl⟩;obtain⟨v,r⟩:∃ b,b=decide (Z7 8 unt):=⟨_,rfl⟩;obtain⟨x,s⟩:∃ b,b=decide (zbu 8 now):=⟨_,rfl⟩;have l:Hid (R=(B && A && z && u && v && x)):=by
  show R=(B && A && z && u && v && x)
  rw[D,p,o,n,q,r,s];exact Zs (k:=8) (by unfold In;omega)
 clear D;have S:own.toList.isEmpty=B:=by rw[p,Z9 own (k:=8) (by omega)]
 have Q:decide (In name 1 30)=A:=by rw[o];exact decide_eq_decide.2 (by unfold ZA In;simp)
 have P:((lgn:Int) == 0)=z:=by rw[n,zcr];exact decide_eq_decide.2 (by unfold zY zO;simp)
 have L:=hI q;have G:=hI r;have H:=hI s;clear p o n q r s;have d9:decide (In 8 1 9)=true:=by decide
 have dn:decide (In 8 4 8)=true:=by decide
 have dl:decide (zO 8)=false:=by decide
 have m:Below w.heap.size w (w.alloc (.cells #[int i64 8,.string own,int i64 name,.slice i lgn j,int i64 pe,int i64 len,int i64 hei,int i64 cl,.bool all,int i64 be,int i64 unt,int i64 now] 120)):=zl bZ _;have C:=heap_alloc_new w (.cells #[int i64 8,.string own,int i64 name,.slice i lgn j,int i64 pe,int i64 len,int i64 hei,int i64 cl,.bool all,int i64 be,int i64 unt,int i64 now] 120);go_enter Tryz.func122,Tryz.ntmps122;go_upto_region 11 with(first|(go_at_call 45;refine sC (zo _ _ _ _) ?_)|(go_at_call 100;refine sC (zF _ _) ?_)|(go_at_call 99;refine sC (zL _ _) ?_))
 generalize w.alloc (.cells #[int i64 8,.string own,int i64 name,.slice i lgn j,int i64 pe,int i64 len,int i64 hei,int i64 cl,.bool all,int i64 be,int i64 unt,int i64 now] 120)=W at m C ⊢;obtain⟨U,V,X,Y,Z,y5,y6,y7,y8,y9,E,F⟩:=ce12 C;go_cut [7] (fun c y=>c=.bool (PZ pe len hei cl all be)/\y=W)
 case first =>
  by_cases gpe:pe=0
  ·subst gpe
   by_cases glen:len=0
   ·subst glen
    by_cases ghei:hei=0
    ·subst ghei
     by_cases gcl:cl=0
     ·subst gcl
      cases all with
      | true =>
       have g:PZ 0 0 0 0 true be=false:=qy (fun h=>by cases h.2.2.2.2.1)
       go_wp2;go_meet;exact⟨by rw[g],rfl⟩
      | false =>
       by_cases gbe:be=0
       ·subst gbe
        go_wp2;go_meet;exact⟨rfl,rfl⟩
       ·have N:(be == 0)=false:=by simpa using gbe
        have g:PZ 0 0 0 0 false be=false:=qy (fun h=>gbe h.2.2.2.2.2)
        go_wp2;go_meet;exact⟨by rw[g],rfl⟩
     ·have O:(cl == 0)=false:=by simpa using gcl
      have g:PZ 0 0 0 cl all be=false:=qy (fun h=>gcl h.2.2.2.1)
      go_wp2;go_meet;exact⟨by rw[g],rfl⟩
    ·have I:(hei == 0)=false:=by simpa using ghei
     have g:PZ 0 0 hei cl all be=false:=qy (fun h=>ghei h.2.2.1)
     go_wp2;go_meet;exact⟨by rw[g],rfl⟩
   ·have J:(len == 0)=false:=by simpa using glen
    have g:PZ 0 len hei cl all be=false:=qy (fun h=>glen h.2.1)
    go_wp2;go_meet;exact⟨by rw[g],rfl⟩
  ·have T:(pe == 0)=false:=by simpa using gpe
   have g:PZ pe len hei cl all be=false:=qy (fun h=>gpe h.1)
   go_wp2;go_meet;exact⟨by rw[g],rfl⟩
 case rest =>
  obtain⟨rfl,t⟩:=hcut;have t:=t.symm;subst t;obtain rfl:PZ pe len hei cl all be=u:=by rw[L.out];exact Q0 (k:=8) (by unfold zO;omega)
  generalize PZ pe len hei cl all be=u at *;have a:=m;clear m C;go_upto_region 17 with(first|(go_at_call 45;refine sC (zo _ _ _ _) ?_)|(go_at_call 100;refine sC (zF _ _) ?_)|(go_at_call 99;refine sC (zL _ _) ?_))
  go_cut [8] (fun c y=>c=.bool v/\y=W)
  case first =>
   by_cases u0:unt=0
   ·subst u0
    go_wp2;go_meet;exact⟨by rw[G.out,decide_eq_true (.inl rfl)],rfl⟩
   ·have M:(unt == 0)=false:=by simpa using u0
    have K:v=false:=by rw[G.out];exact decide_eq_false (fun h=>by rcases h with h|h;exact u0 h;exact absurd h.1 (by decide))
    go_wp2;go_meet;exact⟨by rw[K],rfl⟩
  case rest =>
   obtain⟨rfl,d⟩:=hcut;have d:=d.symm;subst d;go_upto_region 18 with(first|(go_at_call 45;refine sC (zo _ _ _ _) ?_)|(go_at_call 100;refine sC (zF _ _) ?_)|(go_at_call 99;refine sC (zL _ _) ?_))
   go_cut [9] (fun c y=>c=.bool x/\y=W)
   case first =>
    by_cases u0:now=0
    ·subst u0
     go_wp2;go_meet;exact⟨by rw[H.out,decide_eq_true (.inl rfl)],rfl⟩
    ·have M:(now == 0)=false:=by simpa using u0
     have K:decide (In now 0 10000)=x:=by rw[H.out];exact decide_eq_decide.2 ⟨fun h=>.inr ⟨.inl rfl,h⟩,fun h=>by rcases h with h|h;exact absurd h u0;exact h.2⟩
     go_wp2_with (first|(go_at_call 45;refine sC (zo _ _ _ _) ?_)|(go_at_call 100;refine sC (zF _ _) ?_)|(go_at_call 99;refine sC (zL _ _) ?_))
     go_meet;exact⟨rfl,rfl⟩
   case rest =>
    obtain⟨rfl,f⟩:=hcut;have f:=f.symm;subst f;clear S Q P U V X Y Z y5 y6 y7 y8 y9 E F
    cases B with
    | false =>
     go_wp2;go_ret;exact⟨by rw[l.out];simp,a⟩
    | true =>
     cases A with
     | false =>
      go_wp2;go_ret;exact⟨by rw[l.out];simp,a⟩
     | true =>
      cases z with
      | false =>
       go_wp2;go_ret;exact⟨by rw[l.out];simp,a⟩
      | true =>
       cases u with
       | false =>
        go_wp2;go_ret;exact⟨by rw[l.out];simp,a⟩
       | true =>
        cases v with
        | false =>
         go_wp2;go_ret;exact⟨by rw[l.out];simp,a⟩
        | true =>
         cases x with
         | false =>
          go_wp2;go_ret;exact⟨by rw[l.out];simp,a⟩
         | true =>
          go_wp2;go_ret;exact⟨by rw[l.out];rfl,a⟩
theorem specOp_9 (own:ByteArray)(name:Int)(i:Option Addr)(lgn j:Nat)(lg:Nat->Int)(pe len hei cl:Int)(all:Bool)(be unt now:Int)(w:World)(_:own.size<=1000000000000000) :
  Calls Tryz.prog 122 #[.agg #[int i64 9,.string own,int i64 name,.slice i lgn j,int i64 pe,int i64 len,int i64 hei,int i64 cl,.bool all,int i64 be,int i64 unt,int i64 now]] w fun e w'=>e=.returned (.bool (decide (QZ ⟨9,own,name,lgn,lg,pe,len,hei,cl,all,be,unt,now⟩)))/\Below w.heap.size w w':=by
 obtain⟨R,E⟩:∃ R,R=decide (QZ ⟨9,own,name,lgn,lg,pe,len,hei,cl,all,be,unt,now⟩):=⟨_,rfl⟩;rw[← E];obtain⟨B,p⟩:∃ b,b=decide (Zj 9 own):=⟨_,rfl⟩;obtain⟨A,o⟩:∃ b,b=decide (ZA 9 name):=⟨_,rfl⟩;obtain⟨z,n⟩:∃ b,b=decide (zY 9 lgn):=⟨_,rfl⟩;obtain⟨u,q⟩:∃ b,b=decide (qf 9 ⟨pe,len,hei,cl,all,be⟩):=⟨_,rfl⟩;obtain⟨v,r⟩:∃ b,b=decide (Z7 9 unt):=⟨_,rfl⟩;obtain⟨x,s⟩:∃ b,b=decide (zbu 9 now):=⟨_,rfl⟩;have l:Hid (R=(B && A && z && u && v && x)):=by
  show R=(B && A && z && u && v && x)
  rw[E,p,o,n,q,r,s];exact Zs (k:=9) (by unfold In;omega)
 clear E;have S:own.toList.isEmpty=B:=by rw[p,Z9 own (k:=9) (by omega)]
 have Q:(name == 0)=A:=by rw[o,zbv name (k:=9) (by unfold In;omega)]
 have P:((lgn:Int) == 1)=z:=by rw[n,int_one];exact decide_eq_decide.2 (by unfold zY zO;simp)
 have L:=hI q;have H:=hI r;have I:=hI s;clear p o n q r s;have d9:decide (In 9 1 9)=true:=by decide
 have dn:decide (In 9 4 8)=false:=by decide
 have dl:decide (zO 9)=false:=by decide
 have m:Below w.heap.size w (w.alloc (.cells #[int i64 9,.string own,int i64 name,.slice i lgn j,int i64 pe,int i64 len,int i64 hei,int i64 cl,.bool all,int i64 be,int i64 unt,int i64 now] 120)):=zl bZ _;have C:=heap_alloc_new w (.cells #[int i64 9,.string own,int i64 name,.slice i lgn j,int i64 pe,int i64 len,int i64 hei,int i64 cl,.bool all,int i64 be,int i64 unt,int i64 now] 120);go_enter Tryz.func122,Tryz.ntmps122;go_upto_region 11 with(first|(go_at_call 45;refine sC (zo _ _ _ _) ?_)|(go_at_call 100;refine sC (zF _ _) ?_)|(go_at_call 99;refine sC (zL _ _) ?_))
 generalize w.alloc (.cells #[int i64 9,.string own,int i64 name,.slice i lgn j,int i64 pe,int i64 len,int i64 hei,int i64 cl,.bool all,int i64 be,int i64 unt,int i64 now] 120)=W at m C ⊢;obtain⟨U,V,X,Y,Z,y5,y6,y7,y8,y9,F,G⟩:=ce12 C;go_cut [7] (fun c y=>c=.bool (PZ pe len hei cl all be)/\y=W)
 case first =>
  by_cases gpe:pe=0
  ·subst gpe
   by_cases glen:len=0
   ·subst glen
    by_cases ghei:hei=0
    ·subst ghei
     by_cases gcl:cl=0
     ·subst gcl
      cases all with
      | true =>
       have g:PZ 0 0 0 0 true be=false:=qy (fun h=>by cases h.2.2.2.2.1)
       go_wp2;go_meet;exact⟨by rw[g],rfl⟩
      | false =>
       by_cases gbe:be=0
       ·subst gbe
        go_wp2;go_meet;exact⟨rfl,rfl⟩
       ·have N:(be == 0)=false:=by simpa using gbe
        have g:PZ 0 0 0 0 false be=false:=qy (fun h=>gbe h.2.2.2.2.2)
        go_wp2;go_meet;exact⟨by rw[g],rfl⟩
     ·have O:(cl == 0)=false:=by simpa using gcl
      have g:PZ 0 0 0 cl all be=false:=qy (fun h=>gcl h.2.2.2.1)
      go_wp2;go_meet;exact⟨by rw[g],rfl⟩
    ·have J:(hei == 0)=false:=by simpa using ghei
     have g:PZ 0 0 hei cl all be=false:=qy (fun h=>ghei h.2.2.1)
     go_wp2;go_meet;exact⟨by rw[g],rfl⟩
   ·have K:(len == 0)=false:=by simpa using glen
    have g:PZ 0 len hei cl all be=false:=qy (fun h=>glen h.2.1)
    go_wp2;go_meet;exact⟨by rw[g],rfl⟩
  ·have T:(pe == 0)=false:=by simpa using gpe
   have g:PZ pe len hei cl all be=false:=qy (fun h=>gpe h.1)
   go_wp2;go_meet;exact⟨by rw[g],rfl⟩
 case rest =>
  obtain⟨rfl,t⟩:=hcut;have t:=t.symm;subst t;obtain rfl:PZ pe len hei cl all be=u:=by rw[L.out];exact Q0 (k:=9) (by unfold zO;omega)
  generalize PZ pe len hei cl all be=u at *;have a:=m;clear m C;go_upto_region 17 with(first|(go_at_call 45;refine sC (zo _ _ _ _) ?_)|(go_at_call 100;refine sC (zF _ _) ?_)|(go_at_call 99;refine sC (zL _ _) ?_))
  go_cut [8] (fun c y=>c=.bool v/\y=W)
  case first =>
   by_cases u0:unt=0
   ·subst u0
    go_wp2;go_meet;exact⟨by rw[H.out,decide_eq_true (.inl rfl)],rfl⟩
   ·have M:(unt == 0)=false:=by simpa using u0
    have D:v=false:=by rw[H.out];exact decide_eq_false (fun h=>by rcases h with h|h;exact u0 h;exact absurd h.1 (by decide))
    go_wp2;go_meet;exact⟨by rw[D],rfl⟩
  case rest =>
   obtain⟨rfl,d⟩:=hcut;have d:=d.symm;subst d;go_upto_region 18 with(first|(go_at_call 45;refine sC (zo _ _ _ _) ?_)|(go_at_call 100;refine sC (zF _ _) ?_)|(go_at_call 99;refine sC (zL _ _) ?_))
   go_cut [9] (fun c y=>c=.bool x/\y=W)
   case first =>
    by_cases u0:now=0
    ·subst u0
     go_wp2;go_meet;exact⟨by rw[I.out,decide_eq_true (.inl rfl)],rfl⟩
    ·have M:(now == 0)=false:=by simpa using u0
     have D:x=false:=by rw[I.out];exact decide_eq_false (fun h=>by rcases h with h|h;exact u0 h;exact absurd h.1 (by decide))
     go_wp2;go_meet;exact⟨by rw[D],rfl⟩
   case rest =>
    obtain⟨rfl,f⟩:=hcut;have f:=f.symm;subst f;clear S Q P U V X Y Z y5 y6 y7 y8 y9 F G
    cases B with
    | false =>
     go_wp2;go_ret;exact⟨by rw[l.out];simp,a⟩
    | true =>
     cases A with
     | false =>
      go_wp2;go_ret;exact⟨by rw[l.out];simp,a⟩
     | true =>
      cases z with
      | false =>
       go_wp2;go_ret;exact⟨by rw[l.out];simp,a⟩
      | true =>
       cases u with
       | false =>
        go_wp2;go_ret;exact⟨by rw[l.out];simp,a⟩
       | true =>
        cases v with
        | false =>
         go_wp2;go_ret;exact⟨by rw[l.out];simp,a⟩
        | true =>
         cases x with
         | false =>
          go_wp2;go_ret;exact⟨by rw[l.out];simp,a⟩
         | true =>
          go_wp2;go_ret;exact⟨by rw[l.out];rfl,a⟩
end Go.Proofs.YtgmdnkngnhkgbaaGreat
