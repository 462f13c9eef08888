import Derived.Test.YtgmdnkngnhkgbaaGreatB16
namespace Go.Proofs.YtgmdnkngnhkgbaaGreat
open Go.RowKit
open Go.Value (int)
open Go.IntKind (i64)
set_option maxHeartbeats 64000000
set_option maxRecDepth 1000000
theorem specOp_4 (own:ByteArray)(name:Int)(i:Option Addr)(lgn j:Nat)(lg:Nat->Int)(pe len hei cl:Int)(all:Bool)(be unt now:Int)(w:World)(_:own.size<=1000000000000000) :
  Calls Tryz.prog 122 #[.agg #[int i64 4,.string own,int i64 name,.slice i lgn j,int i64 pe,int i64 len,int i64 hei,int i64 cl,.bool all,int i64 be,int i64 unt,int i64 now]] w fun e w'=>e=.returned (.bool (decide (QZ ⟨4,own,name,lgn,lg,pe,len,hei,cl,all,be,unt,now⟩)))/\Below w.heap.size w w':=by
 obtain⟨R,E⟩:∃ R,R=decide (QZ ⟨4,own,name,lgn,lg,pe,len,hei,cl,all,be,unt,now⟩):=⟨_,rfl⟩;rw[← E];obtain⟨B,p⟩:∃ b,b=decide (Zj 4 own):=⟨_,rfl⟩;obtain⟨A,o⟩:∃ b,b=decide (ZA 4 name):=⟨_,rfl⟩;obtain⟨z,n⟩:∃ b,b=decide (zY 4 lgn):=⟨_,rfl⟩;obtain⟨u,q⟩:∃ b,b=decide (qf 4 ⟨pe,len,hei,cl,all,be⟩):=⟨_,rfl⟩;obtain⟨v,r⟩:∃ b,b=decide (Z7 4 unt):=⟨_,rfl⟩;obtain⟨x,s⟩:∃ b,b=decide (zbu 4 now):=⟨_,rfl⟩;have l:Hid (R=(B && A && z && u && v && x)):=by
  show R=(B && A && z && u && v && x)
  rw[E,p,o,n,q,r,s];exact Zs (k:=4) (by unfold In;omega)
 clear E;have S:own.toList.isEmpty=B:=by rw[p,Z9 own (k:=4) (by omega)]
 have Q:decide (In name 1 30)=A:=by rw[o];exact decide_eq_decide.2 (by unfold ZA In;simp)
 have P:((lgn:Int) == 0)=z:=by rw[n,zcr];exact decide_eq_decide.2 (by unfold zY zO;simp)
 have L:=hI q;have H:=hI r;have I:=hI s;clear p o n q r s;have d9:decide (In 4 1 9)=true:=by decide
 have dn:decide (In 4 4 8)=true:=by decide
 have dl:decide (zO 4)=false:=by decide
 have m:Below w.heap.size w (w.alloc (.cells #[int i64 4,.string own,int i64 name,.slice i lgn j,int i64 pe,int i64 len,int i64 hei,int i64 cl,.bool all,int i64 be,int i64 unt,int i64 now] 120)):=zl bZ _;have C:=heap_alloc_new w (.cells #[int i64 4,.string own,int i64 name,.slice i lgn j,int i64 pe,int i64 len,int i64 hei,int i64 cl,.bool all,int i64 be,int i64 unt,int i64 now] 120);go_enter Tryz.func122,Tryz.ntmps122;go_upto_region 11 with(first|(go_at_call 45;refine sC (zo _ _ _ _) ?_)|(go_at_call 100;refine sC (zF _ _) ?_)|(go_at_call 99;refine sC (zL _ _) ?_))
 generalize w.alloc (.cells #[int i64 4,.string own,int i64 name,.slice i lgn j,int i64 pe,int i64 len,int i64 hei,int i64 cl,.bool all,int i64 be,int i64 unt,int i64 now] 120)=W at m C ⊢;obtain⟨U,V,X,Y,Z,y5,y6,y7,y8,y9,F,G⟩:=ce12 C;go_cut [7] (fun c y=>c=.bool (PZ pe len hei cl all be)/\y=W)
 case first =>
  by_cases gpe:pe=0
  ·subst gpe
   by_cases glen:len=0
   ·subst glen
    by_cases ghei:hei=0
    ·subst ghei
     by_cases gcl:cl=0
     ·subst gcl
      cases all with
      | true =>
       have g:PZ 0 0 0 0 true be=false:=qy (fun h=>by cases h.2.2.2.2.1)
       go_wp2;go_meet;exact⟨by rw[g],rfl⟩
      | false =>
       by_cases gbe:be=0
       ·subst gbe
        go_wp2;go_meet;exact⟨rfl,rfl⟩
       ·have N:(be == 0)=false:=by simpa using gbe
        have g:PZ 0 0 0 0 false be=false:=qy (fun h=>gbe h.2.2.2.2.2)
        go_wp2;go_meet;exact⟨by rw[g],rfl⟩
     ·have O:(cl == 0)=false:=by simpa using gcl
      have g:PZ 0 0 0 cl all be=false:=qy (fun h=>gcl h.2.2.2.1)
      go_wp2;go_meet;exact⟨by rw[g],rfl⟩
    ·have J:(hei == 0)=false:=by simpa using ghei
     have g:PZ 0 0 hei cl all be=false:=qy (fun h=>ghei h.2.2.1)
     go_wp2;go_meet;exact⟨by rw[g],rfl⟩
   ·have K:(len == 0)=false:=by simpa using glen
    have g:PZ 0 len hei cl all be=false:=qy (fun h=>glen h.2.1)
    go_wp2;go_meet;exact⟨by rw[g],rfl⟩
  ·have T:(pe == 0)=false:=by simpa using gpe
   have g:PZ pe len hei cl all be=false:=qy (fun h=>gpe h.1)
   go_wp2;go_meet;exact⟨by rw[g],rfl⟩
 case rest =>
  obtain⟨rfl,t⟩:=hcut;have t:=t.symm;subst t;obtain rfl:PZ pe len hei cl all be=u:=by rw[L.out];exact Q0 (k:=4) (by unfold zO;omega)
  generalize PZ pe len hei cl all be=u at *;have a:=m;clear m C;go_upto_region 17 with(first|(go_at_call 45;refine sC (zo _ _ _ _) ?_)|(go_at_call 100;refine sC (zF _ _) ?_)|(go_at_call 99;refine sC (zL _ _) ?_))
  go_cut [8] (fun c y=>c=.bool v/\y=W)
  case first =>
   by_cases u0:unt=0
   ·subst u0
    go_wp2;go_meet;exact⟨by rw[H.out,decide_eq_true (.inl rfl)],rfl⟩
   ·have M:(unt == 0)=false:=by simpa using u0
    have D:v=false:=by rw[H.out];exact decide_eq_false (fun h=>by rcases h with h|h;exact u0 h;exact absurd h.1 (by decide))
    go_wp2;go_meet;exact⟨by rw[D],rfl⟩
  case rest =>
   obtain⟨rfl,d⟩:=hcut;have d:=d.symm;subst d;go_upto_region 18 with(first|(go_at_call 45;refine sC (zo _ _ _ _) ?_)|(go_at_call 100;refine sC (zF _ _) ?_)|(go_at_call 99;refine sC (zL _ _) ?_))
   go_cut [9] (fun c y=>c=.bool x/\y=W)
   case first =>
    by_cases u0:now=0
    ·subst u0
     go_wp2;go_meet;exact⟨by rw[I.out,decide_eq_true (.inl rfl)],rfl⟩
    ·have M:(now == 0)=false:=by simpa using u0
     have D:x=false:=by rw[I.out];exact decide_eq_false (fun h=>by rcases h with h|h;exact u0 h;exact absurd h.1 (by decide))
     go_wp2;go_meet;exact⟨by rw[D],rfl⟩
   case rest =>
    obtain⟨rfl,f⟩:=hcut;have f:=f.symm;subst f;clear S Q P U V X Y Z y5 y6 y7 y8 y9 F G
    cases B with
    | false =>
     go_wp2;go_ret;exact⟨by rw[l.out];simp,a⟩
    | true =>
     cases A with
     | false =>
      go_wp2;go_ret;exact⟨by rw[l.out];simp,a⟩
     | true =>
      cases z with
      | false =>
       go_wp2;go_ret;exact⟨by rw[l.out];simp,a⟩
      | true =>
       cases u with
       | false =>
        go_wp2;go_ret;exact⟨by rw[l.out];simp,a⟩
       | true =>
        cases v with
        | false =>
         go_wp2;go_ret;exact⟨by rw[l.out];simp,a⟩
        | true =>
         cases x with
         | false =>
          go_wp2;go_ret;exact⟨by rw[l.out];simp,a⟩
         | true =>
          go_wp2;go_ret;exact⟨by rw[l.out];rfl,a⟩
theorem specOp_5 (own:ByteArray)(name:Int)(i:Option Addr)(lgn j:Nat)(lg:Nat->Int)(pe len hei cl:Int)(all:Bool)(be unt now:Int)(w:World)(_:own.size<=1000000000000000) :
  Calls Tryz.prog 122 #[.agg #[int i64 5,.string own,int i64 name,.slice i lgn j,int i64 pe,int i64 len,int i64 hei,int i64 cl,.bool all,int i64 be,int i64 unt,int i64 now]] w fun e w'=>e=.returned (.bool (decide (QZ ⟨5,own,name,lgn,lg,pe,len,hei,cl,all,be,unt,now⟩)))/\Below w.heap.size w w':=by
 obtain⟨R,I⟩:∃ R,R=decide (QZ ⟨5,own,name,lgn,lg,pe,len,hei,cl,all,be,unt,now⟩):=⟨_,rfl⟩;rw[← I];obtain⟨F,r⟩:∃ b,b=decide (Zj 5 own):=⟨_,rfl⟩;obtain⟨E,p⟩:∃ b,b=decide (ZA 5 name):=⟨_,rfl⟩;obtain⟨D,o⟩:∃ b,b=decide (zY 5 lgn):=⟨_,rfl⟩;obtain⟨G,s⟩:∃ b,b=decide (qf 5 ⟨pe,len,hei,cl,all,be⟩):=⟨_,rfl⟩;obtain⟨z,t⟩:∃ b,b=decide (Z7 5 unt):=⟨_,rfl⟩;obtain⟨A,u⟩:∃ b,b=decide (zbu 5 now):=⟨_,rfl⟩;have l:Hid (R=(F && E && D && G && z && A)):=by
  show R=(F && E && D && G && z && A)
  rw[I,r,p,o,s,t,u];exact Zs (k:=5) (by unfold In;omega)
 clear I;have Z:own.toList.isEmpty=F:=by rw[r,Z9 own (k:=5) (by omega)]
 have Y:decide (In name 1 30)=E:=by rw[p];exact decide_eq_decide.2 (by unfold ZA In;simp)
 have X:decide (In (lgn:Int) 1 3)=D:=by rw[o];exact decide_eq_decide.2 (by unfold zY zO In;simp;omega)
 have S:=hI s;have L:=hI t;have M:=hI u;clear r p o s t u;have d9:decide (In 5 1 9)=true:=by decide
 have dn:decide (In 5 4 8)=true:=by decide
 have dl:decide (zO 5)=true:=by decide
 have m:Below w.heap.size w (w.alloc (.cells #[int i64 5,.string own,int i64 name,.slice i lgn j,int i64 pe,int i64 len,int i64 hei,int i64 cl,.bool all,int i64 be,int i64 unt,int i64 now] 120)):=zl bZ _;have C:=heap_alloc_new w (.cells #[int i64 5,.string own,int i64 name,.slice i lgn j,int i64 pe,int i64 len,int i64 hei,int i64 cl,.bool all,int i64 be,int i64 unt,int i64 now] 120);go_enter Tryz.func122,Tryz.ntmps122;go_upto_region 11 with(first|(go_at_call 45;refine sC (zo _ _ _ _) ?_)|(go_at_call 100;refine sC (zF _ _) ?_)|(go_at_call 99;refine sC (zL _ _) ?_))
 generalize w.alloc (.cells #[int i64 5,.string own,int i64 name,.slice i lgn j,int i64 pe,int i64 len,int i64 hei,int i64 cl,.bool all,int i64 be,int i64 unt,int i64 now] 120)=W at m C ⊢;obtain⟨J,y1,y2,K,y4,y5,y6,y7,y8,y9,x,y⟩:=ce12 C;go_cut [7] (fun c B=>c=.bool (PZ pe len hei cl all be)/\B=W)
 case first =>
  by_cases gpe:pe=0
  ·subst gpe
   by_cases glen:len=0
   ·subst glen
    by_cases ghei:hei=0
    ·subst ghei
     by_cases gcl:cl=0
     ·subst gcl
      cases all with
      | true =>
       have g:PZ 0 0 0 0 true be=false:=qy (fun h=>by cases h.2.2.2.2.1)
       go_wp2;go_meet;exact⟨by rw[g],rfl⟩
      | false =>
       by_cases gbe:be=0
       ·subst gbe
        go_wp2;go_meet;exact⟨rfl,rfl⟩
       ·have U:(be == 0)=false:=by simpa using gbe
        have g:PZ 0 0 0 0 false be=false:=qy (fun h=>gbe h.2.2.2.2.2)
        go_wp2;go_meet;exact⟨by rw[g],rfl⟩
     ·have V:(cl == 0)=false:=by simpa using gcl
      have g:PZ 0 0 0 cl all be=false:=qy (fun h=>gcl h.2.2.2.1)
      go_wp2;go_meet;exact⟨by rw[g],rfl⟩
    ·have O:(hei == 0)=false:=by simpa using ghei
     have g:PZ 0 0 hei cl all be=false:=qy (fun h=>ghei h.2.2.1)
     go_wp2;go_meet;exact⟨by rw[g],rfl⟩
   ·have P:(len == 0)=false:=by simpa using glen
    have g:PZ 0 len hei cl all be=false:=qy (fun h=>glen h.2.1)
    go_wp2;go_meet;exact⟨by rw[g],rfl⟩
  ·have a0:(pe == 0)=false:=by simpa using gpe
   have g:PZ pe len hei cl all be=false:=qy (fun h=>gpe h.1)
   go_wp2;go_meet;exact⟨by rw[g],rfl⟩
 case rest =>
  obtain⟨rfl,v⟩:=hcut;have v:=v.symm;subst v;generalize PZ pe len hei cl all be=pz at *;go_wp2_with (first|(go_at_call 45;refine sC (zo _ _ _ _) ?_)|(go_at_call 100;refine sC (zF _ _) ?_)|(go_at_call 99;refine sC (zL _ _) ?_))
  refine(ZV pe len hei cl all be _).mono ?_;rintro e N ⟨⟨q,rfl,Q⟩,n⟩;obtain rfl:G=q:=by rw[S.out];exact zaJ (k:=5) (.inr (.inr (.inr rfl))) Q
  have b1:=zb C n;have a:=zf m n;clear m C n Q J y1 y2 K y4 y5 y6 y7 y8 y9 x y;have J:=za b1 0 _ rfl;have K:=za b1 3 _ rfl;have x:=za b1 10 _ rfl;have y:=za b1 11 _ rfl;go_upto_region 17 with(first|(go_at_call 45;refine sC (zo _ _ _ _) ?_)|(go_at_call 100;refine sC (zF _ _) ?_)|(go_at_call 99;refine sC (zL _ _) ?_))
  go_cut [8] (fun c B=>c=.bool z/\B=N)
  case first =>
   by_cases u0:unt=0
   ·subst u0
    go_wp2;go_meet;exact⟨by rw[L.out,decide_eq_true (.inl rfl)],rfl⟩
   ·have T:(unt == 0)=false:=by simpa using u0
    have H:z=false:=by rw[L.out];exact decide_eq_false (fun h=>by rcases h with h|h;exact u0 h;exact absurd h.1 (by decide))
    go_wp2;go_meet;exact⟨by rw[H],rfl⟩
  case rest =>
   obtain⟨rfl,d⟩:=hcut;have d:=d.symm;subst d;go_upto_region 18 with(first|(go_at_call 45;refine sC (zo _ _ _ _) ?_)|(go_at_call 100;refine sC (zF _ _) ?_)|(go_at_call 99;refine sC (zL _ _) ?_))
   go_cut [9] (fun c B=>c=.bool A/\B=N)
   case first =>
    by_cases u0:now=0
    ·subst u0
     go_wp2;go_meet;exact⟨by rw[M.out,decide_eq_true (.inl rfl)],rfl⟩
    ·have T:(now == 0)=false:=by simpa using u0
     have H:A=false:=by rw[M.out];exact decide_eq_false (fun h=>by rcases h with h|h;exact u0 h;exact absurd h.1 (by decide))
     go_wp2;go_meet;exact⟨by rw[H],rfl⟩
   case rest =>
    obtain⟨rfl,f⟩:=hcut;have f:=f.symm;subst f;clear Z Y X J K x y
    cases F with
    | false =>
     go_wp2;go_ret;exact⟨by rw[l.out];simp,a⟩
    | true =>
     cases E with
     | false =>
      go_wp2;go_ret;exact⟨by rw[l.out];simp,a⟩
     | true =>
      cases D with
      | false =>
       go_wp2;go_ret;exact⟨by rw[l.out];simp,a⟩
      | true =>
       cases G with
       | false =>
        go_wp2;go_ret;exact⟨by rw[l.out];simp,a⟩
       | true =>
        cases z with
        | false =>
         go_wp2;go_ret;exact⟨by rw[l.out];simp,a⟩
        | true =>
         cases A with
         | false =>
          go_wp2;go_ret;exact⟨by rw[l.out];simp,a⟩
         | true =>
          go_wp2;go_ret;exact⟨by rw[l.out];rfl,a⟩
theorem specOp_6 (own:ByteArray)(name:Int)(i:Option Addr)(lgn j:Nat)(lg:Nat->Int)(pe len hei cl:Int)(all:Bool)(be unt now:Int)(w:World)(_:own.size<=1000000000000000) :
  Calls Tryz.prog 122 #[.agg #[int i64 6,.string own,int i64 name,.slice i lgn j,int i64 pe,int i64 len,int i64 hei,int i64 cl,.bool all,int i64 be,int i64 unt,int i64 now]] w fun e w'=>e=.returned (.bool (decide (QZ ⟨6,own,name,lgn,lg,pe,len,hei,cl,all,be,unt,now⟩)))/\Below w.heap.size w w':=by
 obtain⟨R,D⟩:∃ R,R=decide (QZ ⟨6,own,name,lgn,lg,pe,len,hei,cl,all,be,unt,now⟩):=⟨_,rfl⟩;rw[← D];obtain⟨B,p⟩:∃ b,b=decide (Zj 6 own):=⟨_,rfl⟩;obtain⟨A,o⟩:∃ b,b=decide (ZA 6 name):=⟨_,rfl⟩;obtain⟨z,n⟩:∃ b,b=decide (zY 6 lgn):=⟨_,rfl⟩;obtain⟨u,q⟩:∃ b,b=decide (qf 6 ⟨pe,len,hei,cl,all,be⟩):=⟨_,rfl⟩;obtain⟨v,r⟩:∃ b,b=decide (Z7 6 unt):=⟨_,rfl⟩;obtain⟨x,s⟩:∃ b,b=decide (zbu 6 now):=⟨_,rfl⟩;have l:Hid (R=(B && A && z && u && v && x)):=by
  show R=(B && A && z && u && v && x)
  rw[D,p,o,n,q,r,s];exact Zs (k:=6) (by unfold In;omega)
 clear D;have S:own.toList.isEmpty=B:=by rw[p,Z9 own (k:=6) (by omega)]
 have Q:decide (In name 1 30)=A:=by rw[o];exact decide_eq_decide.2 (by unfold ZA In;simp)
 have P:((lgn:Int) == 0)=z:=by rw[n,zcr];exact decide_eq_decide.2 (by unfold zY zO;simp)
 have L:=hI q;have G:=hI r;have H:=hI s;clear p o n q r s;have d9:decide (In 6 1 9)=true:=by decide
 have dn:decide (In 6 4 8)=true:=by decide
 have dl:decide (zO 6)=false:=by decide
 have m:Below w.heap.size w (w.alloc (.cells #[int i64 6,.string own,int i64 name,.slice i lgn j,int i64 pe,int i64 len,int i64 hei,int i64 cl,.bool all,int i64 be,int i64 unt,int i64 now] 120)):=zl bZ _;have C:=heap_alloc_new w (.cells #[int i64 6,.string own,int i64 name,.slice i lgn j,int i64 pe,int i64 len,int i64 hei,int i64 cl,.bool all,int i64 be,int i64 unt,int i64 now] 120);go_enter Tryz.func122,Tryz.ntmps122;go_upto_region 11 with(first|(go_at_call 45;refine sC (zo _ _ _ _) ?_)|(go_at_call 100;refine sC (zF _ _) ?_)|(go_at_call 99;refine sC (zL _ _) ?_))
 generalize w.alloc (.cells #[int i64 6,.string own,int i64 name,.slice i lgn j,int i64 pe,int i64 len,int i64 hei,int i64 cl,.bool all,int i64 be,int i64 unt,int i64 now] 120)=W at m C ⊢;obtain⟨U,V,X,Y,Z,y5,y6,y7,y8,y9,E,F⟩:=ce12 C;go_cut [7] (fun c y=>c=.bool (PZ pe len hei cl all be)/\y=W)
 case first =>
  by_cases gpe:pe=0
  ·subst gpe
   by_cases glen:len=0
   ·subst glen
    by_cases ghei:hei=0
    ·subst ghei
     by_cases gcl:cl=0
     ·subst gcl
      cases all with
      | true =>
       have g:PZ 0 0 0 0 true be=false:=qy (fun h=>by cases h.2.2.2.2.1)
       go_wp2;go_meet;exact⟨by rw[g],rfl⟩
      | false =>
       by_cases gbe:be=0
       ·subst gbe
        go_wp2;go_meet;exact⟨rfl,rfl⟩
       ·have N:(be == 0)=false:=by simpa using gbe
        have g:PZ 0 0 0 0 false be=false:=qy (fun h=>gbe h.2.2.2.2.2)
        go_wp2;go_meet;exact⟨by rw[g],rfl⟩
     ·have O:(cl == 0)=false:=by simpa using gcl
      have g:PZ 0 0 0 cl all be=false:=qy (fun h=>gcl h.2.2.2.1)
      go_wp2;go_meet;exact⟨by rw[g],rfl⟩
    ·have I:(hei == 0)=false:=by simpa using ghei
     have g:PZ 0 0 hei cl all be=false:=qy (fun h=>ghei h.2.2.1)
     go_wp2;go_meet;exact⟨by rw[g],rfl⟩
   ·have J:(len == 0)=false:=by simpa using glen
    have g:PZ 0 len hei cl all be=false:=qy (fun h=>glen h.2.1)
    go_wp2;go_meet;exact⟨by rw[g],rfl⟩
  ·have T:(pe == 0)=false:=by simpa using gpe
   have g:PZ pe len hei cl all be=false:=qy (fun h=>gpe h.1)
   go_wp2;go_meet;exact⟨by rw[g],rfl⟩
 case rest =>
  obtain⟨rfl,t⟩:=hcut;have t:=t.symm;subst t;obtain rfl:PZ pe len hei cl all be=u:=by rw[L.out];exact Q0 (k:=6) (by unfold zO;omega)
  generalize PZ pe len hei cl all be=u at *;have a:=m;clear m C;go_upto_region 17 with(first|(go_at_call 45;refine sC (zo _ _ _ _) ?_)|(go_at_call 100;refine sC (zF _ _) ?_)|(go_at_call 99;refine sC (zL _ _) ?_))
  go_cut [8] (fun c y=>c=.bool v/\y=W)
  case first =>
   by_cases u0:unt=0
   ·subst u0
    go_wp2;go_meet;exact⟨by rw[G.out,decide_eq_true (.inl rfl)],rfl⟩
   ·have M:(unt == 0)=false:=by simpa using u0
    have K:v=false:=by rw[G.out];exact decide_eq_false (fun h=>by rcases h with h|h;exact u0 h;exact absurd h.1 (by decide))
    go_wp2;go_meet;exact⟨by rw[K],rfl⟩
  case rest =>
   obtain⟨rfl,d⟩:=hcut;have d:=d.symm;subst d;go_upto_region 18 with(first|(go_at_call 45;refine sC (zo _ _ _ _) ?_)|(go_at_call 100;refine sC (zF _ _) ?_)|(go_at_call 99;refine sC (zL _ _) ?_))
   go_cut [9] (fun c y=>c=.bool x/\y=W)
   case first =>
    by_cases u0:now=0
    ·subst u0
     go_wp2;go_meet;exact⟨by rw[H.out,decide_eq_true (.inl rfl)],rfl⟩
    ·have M:(now == 0)=false:=by simpa using u0
     have K:decide (In now 0 10000)=x:=by rw[H.out];exact decide_eq_decide.2 ⟨fun h=>.inr ⟨.inr rfl,h⟩,fun h=>by rcases h with h|h;exact absurd h u0;exact h.2⟩
     go_wp2_with (first|(go_at_call 45;refine sC (zo _ _ _ _) ?_)|(go_at_call 100;refine sC (zF _ _) ?_)|(go_at_call 99;refine sC (zL _ _) ?_))
     go_meet;exact⟨rfl,rfl⟩
   case rest =>
    obtain⟨rfl,f⟩:=hcut;have f:=f.symm;subst f;clear S Q P U V X Y Z y5 y6 y7 y8 y9 E F
    cases B with
    | false =>
     go_wp2;go_ret;exact⟨by rw[l.out];simp,a⟩
    | true =>
     cases A with
     | false =>
      go_wp2;go_ret;exact⟨by rw[l.out];simp,a⟩
     | true =>
      cases z with
      | false =>
       go_wp2;go_ret;exact⟨by rw[l.out];simp,a⟩
      | true =>
       cases u with
       | false =>
        go_wp2;go_ret;exact⟨by rw[l.out];simp,a⟩
       | true =>
        cases v with
        | false =>
         go_wp2;go_ret;exact⟨by rw[l.out];simp,a⟩
        | true =>
         cases x with
         | false =>
          go_wp2;go_ret;exact⟨by rw[l.out];simp,a⟩
         | true =>
          go_wp2;go_ret;exact⟨by rw[l.out];rfl,a⟩
end Go.Proofs.YtgmdnkngnhkgbaaGreat
