import Derived.Test.YtgmdnkngnhkgbaaGreatB16
namespace Go.Proofs.YtgmdnkngnhkgbaaGreat
open Go.RowKit
open Go.Value (int)
open Go.IntKind (i64)
set_option maxHeartbeats 64000000
set_option maxRecDepth 1000000
theorem specOp_1 (own:ByteArray)(name:Int)(i:Option Addr)(lgn j:Nat)(lg:Nat->Int)(pe len hei cl:Int)(all:Bool)(be unt now:Int)(w:World)(_:own.size<=1000000000000000) :
  Calls Tryz.prog 122 #[.agg #[int i64 1,.string own,int i64 name,.slice i lgn j,int i64 pe,int i64 len,int i64 hei,int i64 cl,.bool all,int i64 be,int i64 unt,int i64 now]] w fun e w'=>e=.returned (.bool (decide (QZ ⟨1,own,name,lgn,lg,pe,len,hei,cl,all,be,unt,now⟩)))/\Below w.heap.size w w':=by
 obtain⟨R,I⟩:∃ R,R=decide (QZ ⟨1,own,name,lgn,lg,pe,len,hei,cl,all,be,unt,now⟩):=⟨_,rfl⟩;rw[← I];obtain⟨F,r⟩:∃ b,b=decide (Zj 1 own):=⟨_,rfl⟩;obtain⟨E,p⟩:∃ b,b=decide (ZA 1 name):=⟨_,rfl⟩;obtain⟨D,o⟩:∃ b,b=decide (zY 1 lgn):=⟨_,rfl⟩;obtain⟨G,s⟩:∃ b,b=decide (qf 1 ⟨pe,len,hei,cl,all,be⟩):=⟨_,rfl⟩;obtain⟨z,t⟩:∃ b,b=decide (Z7 1 unt):=⟨_,rfl⟩;obtain⟨A,u⟩:∃ b,b=decide (zbu 1 now):=⟨_,rfl⟩;have l:Hid (R=(F && E && D && G && z && A)):=by
  show R=(F && E && D && G && z && A)
  rw[I,r,p,o,s,t,u];exact Zs (k:=1) (by unfold In;omega)
 clear I;have Z:own.toList.isEmpty=F:=by rw[r,Z9 own (k:=1) (by omega)]
 have Y:(name == 0)=E:=by rw[p,zbv name (k:=1) (by unfold In;omega)]
 have X:decide (In (lgn:Int) 1 3)=D:=by rw[o];exact decide_eq_decide.2 (by unfold zY zO In;simp;omega)
 have S:=hI s;have L:=hI t;have M:=hI u;clear r p o s t u;have d9:decide (In 1 1 9)=true:=by decide
 have dn:decide (In 1 4 8)=false:=by decide
 have dl:decide (zO 1)=true:=by decide
 have m:Below w.heap.size w (w.alloc (.cells #[int i64 1,.string own,int i64 name,.slice i lgn j,int i64 pe,int i64 len,int i64 hei,int i64 cl,.bool all,int i64 be,int i64 unt,int i64 now] 120)):=zl bZ _;have C:=heap_alloc_new w (.cells #[int i64 1,.string own,int i64 name,.slice i lgn j,int i64 pe,int i64 len,int i64 hei,int i64 cl,.bool all,int i64 be,int i64 unt,int i64 now] 120);go_enter Tryz.func122,Tryz.ntmps122;go_upto_region 11 with(first|(go_at_call 45;refine sC (zo _ _ _ _) ?_)|(go_at_call 100;refine sC (zF _ _) ?_)|(go_at_call 99;refine sC (zL _ _) ?_))
 generalize w.alloc (.cells #[int i64 1,.string own,int i64 name,.slice i lgn j,int i64 pe,int i64 len,int i64 hei,int i64 cl,.bool all,int i64 be,int i64 unt,int i64 now] 120)=W at m C ⊢;obtain⟨J,y1,y2,K,y4,y5,y6,y7,y8,y9,x,y⟩:=ce12 C;go_cut [7] (fun c B=>c=.bool (PZ pe len hei cl all be)/\B=W)
 case first =>
  by_cases gpe:pe=0
  ·subst gpe
   by_cases glen:len=0
   ·subst glen
    by_cases ghei:hei=0
    ·subst ghei
     by_cases gcl:cl=0
     ·subst gcl
      cases all with
      | true =>
       have g:PZ 0 0 0 0 true be=false:=qy (fun h=>by cases h.2.2.2.2.1)
       go_wp2;go_meet;exact⟨by rw[g],rfl⟩
      | false =>
       by_cases gbe:be=0
       ·subst gbe
        go_wp2;go_meet;exact⟨rfl,rfl⟩
       ·have U:(be == 0)=false:=by simpa using gbe
        have g:PZ 0 0 0 0 false be=false:=qy (fun h=>gbe h.2.2.2.2.2)
        go_wp2;go_meet;exact⟨by rw[g],rfl⟩
     ·have V:(cl == 0)=false:=by simpa using gcl
      have g:PZ 0 0 0 cl all be=false:=qy (fun h=>gcl h.2.2.2.1)
      go_wp2;go_meet;exact⟨by rw[g],rfl⟩
    ·have O:(hei == 0)=false:=by simpa using ghei
     have g:PZ 0 0 hei cl all be=false:=qy (fun h=>ghei h.2.2.1)
     go_wp2;go_meet;exact⟨by rw[g],rfl⟩
   ·have P:(len == 0)=false:=by simpa using glen
    have g:PZ 0 len hei cl all be=false:=qy (fun h=>glen h.2.1)
    go_wp2;go_meet;exact⟨by rw[g],rfl⟩
  ·have a0:(pe == 0)=false:=by simpa using gpe
   have g:PZ pe len hei cl all be=false:=qy (fun h=>gpe h.1)
   go_wp2;go_meet;exact⟨by rw[g],rfl⟩
 case rest =>
  obtain⟨rfl,v⟩:=hcut;have v:=v.symm;subst v;generalize PZ pe len hei cl all be=pz at *;go_wp2_with (first|(go_at_call 45;refine sC (zo _ _ _ _) ?_)|(go_at_call 100;refine sC (zF _ _) ?_)|(go_at_call 99;refine sC (zL _ _) ?_))
  refine(ZV pe len hei cl all be _).mono ?_;rintro e N ⟨⟨q,rfl,Q⟩,n⟩;obtain rfl:G=q:=by rw[S.out];exact zaJ (k:=1) (.inl rfl) Q
  have b1:=zb C n;have a:=zf m n;clear m C n Q J y1 y2 K y4 y5 y6 y7 y8 y9 x y;have J:=za b1 0 _ rfl;have K:=za b1 3 _ rfl;have x:=za b1 10 _ rfl;have y:=za b1 11 _ rfl;go_upto_region 17 with(first|(go_at_call 45;refine sC (zo _ _ _ _) ?_)|(go_at_call 100;refine sC (zF _ _) ?_)|(go_at_call 99;refine sC (zL _ _) ?_))
  go_cut [8] (fun c B=>c=.bool z/\B=N)
  case first =>
   by_cases u0:unt=0
   ·subst u0
    go_wp2;go_meet;exact⟨by rw[L.out,decide_eq_true (.inl rfl)],rfl⟩
   ·have T:(unt == 0)=false:=by simpa using u0
    have H:z=false:=by rw[L.out];exact decide_eq_false (fun h=>by rcases h with h|h;exact u0 h;exact absurd h.1 (by decide))
    go_wp2;go_meet;exact⟨by rw[H],rfl⟩
  case rest =>
   obtain⟨rfl,d⟩:=hcut;have d:=d.symm;subst d;go_upto_region 18 with(first|(go_at_call 45;refine sC (zo _ _ _ _) ?_)|(go_at_call 100;refine sC (zF _ _) ?_)|(go_at_call 99;refine sC (zL _ _) ?_))
   go_cut [9] (fun c B=>c=.bool A/\B=N)
   case first =>
    by_cases u0:now=0
    ·subst u0
     go_wp2;go_meet;exact⟨by rw[M.out,decide_eq_true (.inl rfl)],rfl⟩
    ·have T:(now == 0)=false:=by simpa using u0
     have H:A=false:=by rw[M.out];exact decide_eq_false (fun h=>by rcases h with h|h;exact u0 h;exact absurd h.1 (by decide))
     go_wp2;go_meet;exact⟨by rw[H],rfl⟩
   case rest =>
    obtain⟨rfl,f⟩:=hcut;have f:=f.symm;subst f;clear Z Y X J K x y
    cases F with
    | false =>
     go_wp2;go_ret;exact⟨by rw[l.out];simp,a⟩
    | true =>
     cases E with
     | false =>
      go_wp2;go_ret;exact⟨by rw[l.out];simp,a⟩
     | true =>
      cases D with
      | false =>
       go_wp2;go_ret;exact⟨by rw[l.out];simp,a⟩
      | true =>
       cases G with
       | false =>
        go_wp2;go_ret;exact⟨by rw[l.out];simp,a⟩
       | true =>
        cases z with
        | false =>
         go_wp2;go_ret;exact⟨by rw[l.out];simp,a⟩
        | true =>
         cases A with
         | false =>
          go_wp2;go_ret;exact⟨by rw[l.out];simp,a⟩
         | true =>
          go_wp2;go_ret;exact⟨by rw[l.out];rfl,a⟩
theorem specOp_2 (own:ByteArray)(name:Int)(j:Option Addr)(lgn l:Nat)(lg:Nat->Int)(pe len hei cl:Int)(all:Bool)(be unt now:Int)(w:World)(a:own.size<=1000000000000000) :
  Calls Tryz.prog 122 #[.agg #[int i64 2,.string own,int i64 name,.slice j lgn l,int i64 pe,int i64 len,int i64 hei,int i64 cl,.bool all,int i64 be,int i64 unt,int i64 now]] w fun e w'=>e=.returned (.bool (decide (QZ ⟨2,own,name,lgn,lg,pe,len,hei,cl,all,be,unt,now⟩)))/\Below w.heap.size w w':=by
 obtain⟨R,I⟩:∃ R,R=decide (QZ ⟨2,own,name,lgn,lg,pe,len,hei,cl,all,be,unt,now⟩):=⟨_,rfl⟩;rw[← I];obtain⟨G,s⟩:∃ b,b=decide (Zj 2 own):=⟨_,rfl⟩;obtain⟨F,r⟩:∃ b,b=decide (ZA 2 name):=⟨_,rfl⟩;obtain⟨E,p⟩:∃ b,b=decide (zY 2 lgn):=⟨_,rfl⟩;obtain⟨H,t⟩:∃ b,b=decide (qf 2 ⟨pe,len,hei,cl,all,be⟩):=⟨_,rfl⟩;obtain⟨A,u⟩:∃ b,b=decide (Z7 2 unt):=⟨_,rfl⟩;obtain⟨B,v⟩:∃ b,b=decide (zbu 2 now):=⟨_,rfl⟩;have m:Hid (R=(G && F && E && H && A && B)):=by
  show R=(G && F && E && H && A && B)
  rw[I,s,r,p,t,u,v];exact Zs (k:=2) (by unfold In;omega)
 clear I;have eo:decide (qr own)=G:=by rw[s];exact decide_eq_decide.2 (by unfold Zj;simp)
 have Z:(name == 0)=F:=by rw[r,zbv name (k:=2) (by unfold In;omega)]
 have Y:decide (In (lgn:Int) 1 3)=E:=by rw[p];exact decide_eq_decide.2 (by unfold zY zO In;simp;omega)
 have T:=hI t;have L:=hI u;have M:=hI v;clear s r p t u v;have d9:decide (In 2 1 9)=true:=by decide
 have dn:decide (In 2 4 8)=false:=by decide
 have dl:decide (zO 2)=true:=by decide
 have n:Below w.heap.size w (w.alloc (.cells #[int i64 2,.string own,int i64 name,.slice j lgn l,int i64 pe,int i64 len,int i64 hei,int i64 cl,.bool all,int i64 be,int i64 unt,int i64 now] 120)):=zl bZ _;have D:=heap_alloc_new w (.cells #[int i64 2,.string own,int i64 name,.slice j lgn l,int i64 pe,int i64 len,int i64 hei,int i64 cl,.bool all,int i64 be,int i64 unt,int i64 now] 120);go_enter Tryz.func122,Tryz.ntmps122;go_upto_region 11 with(first|(go_at_call 45;refine sC (zo _ _ _ _) ?_)|(go_at_call 100;refine sC (zF _ _) ?_)|(go_at_call 99;refine sC (zL _ _) ?_)|(go_at_call 53;refine sC (qe _ _ a) ?_))
 generalize w.alloc (.cells #[int i64 2,.string own,int i64 name,.slice j lgn l,int i64 pe,int i64 len,int i64 hei,int i64 cl,.bool all,int i64 be,int i64 unt,int i64 now] 120)=W at n D ⊢;obtain⟨J,y1,y2,K,y4,y5,y6,y7,y8,y9,y,z⟩:=ce12 D;go_cut [7] (fun c C=>c=.bool (PZ pe len hei cl all be)/\C=W)
 case first =>
  by_cases gpe:pe=0
  ·subst gpe
   by_cases glen:len=0
   ·subst glen
    by_cases ghei:hei=0
    ·subst ghei
     by_cases gcl:cl=0
     ·subst gcl
      cases all with
      | true =>
       have i:PZ 0 0 0 0 true be=false:=qy (fun h=>by cases h.2.2.2.2.1)
       go_wp2;go_meet;exact⟨by rw[i],rfl⟩
      | false =>
       by_cases gbe:be=0
       ·subst gbe
        go_wp2;go_meet;exact⟨rfl,rfl⟩
       ·have V:(be == 0)=false:=by simpa using gbe
        have i:PZ 0 0 0 0 false be=false:=qy (fun h=>gbe h.2.2.2.2.2)
        go_wp2;go_meet;exact⟨by rw[i],rfl⟩
     ·have X:(cl == 0)=false:=by simpa using gcl
      have i:PZ 0 0 0 cl all be=false:=qy (fun h=>gcl h.2.2.2.1)
      go_wp2;go_meet;exact⟨by rw[i],rfl⟩
    ·have O:(hei == 0)=false:=by simpa using ghei
     have i:PZ 0 0 hei cl all be=false:=qy (fun h=>ghei h.2.2.1)
     go_wp2;go_meet;exact⟨by rw[i],rfl⟩
   ·have P:(len == 0)=false:=by simpa using glen
    have i:PZ 0 len hei cl all be=false:=qy (fun h=>glen h.2.1)
    go_wp2;go_meet;exact⟨by rw[i],rfl⟩
  ·have a0:(pe == 0)=false:=by simpa using gpe
   have i:PZ pe len hei cl all be=false:=qy (fun h=>gpe h.1)
   go_wp2;go_meet;exact⟨by rw[i],rfl⟩
 case rest =>
  obtain⟨rfl,x⟩:=hcut;have x:=x.symm;subst x;generalize PZ pe len hei cl all be=pz at *;go_wp2_with (first|(go_at_call 45;refine sC (zo _ _ _ _) ?_)|(go_at_call 100;refine sC (zF _ _) ?_)|(go_at_call 99;refine sC (zL _ _) ?_)|(go_at_call 53;refine sC (qe _ _ a) ?_))
  refine(ZV pe len hei cl all be _).mono ?_;rintro e N ⟨⟨q,rfl,S⟩,o⟩;obtain rfl:H=q:=by rw[T.out];exact zaJ (k:=2) (.inr (.inl rfl)) S
  have b1:=zb D o;have d:=zf n o;clear n D o S J y1 y2 K y4 y5 y6 y7 y8 y9 y z;have J:=za b1 0 _ rfl;have K:=za b1 3 _ rfl;have y:=za b1 10 _ rfl;have z:=za b1 11 _ rfl;go_upto_region 17 with(first|(go_at_call 45;refine sC (zo _ _ _ _) ?_)|(go_at_call 100;refine sC (zF _ _) ?_)|(go_at_call 99;refine sC (zL _ _) ?_)|(go_at_call 53;refine sC (qe _ _ a) ?_))
  go_cut [8] (fun c C=>c=.bool A/\C=N)
  case first =>
   by_cases u0:unt=0
   ·subst u0
    go_wp2;go_meet;exact⟨by rw[L.out,decide_eq_true (.inl rfl)],rfl⟩
   ·have U:(unt == 0)=false:=by simpa using u0
    have Q:decide (In unt 0 10000)=A:=by rw[L.out];exact decide_eq_decide.2 ⟨fun h=>.inr ⟨rfl,h⟩,fun h=>by rcases h with h|h;exact absurd h u0;exact h.2⟩
    go_wp2_with (first|(go_at_call 45;refine sC (zo _ _ _ _) ?_)|(go_at_call 100;refine sC (zF _ _) ?_)|(go_at_call 99;refine sC (zL _ _) ?_)|(go_at_call 53;refine sC (qe _ _ a) ?_))
    go_meet;exact⟨rfl,rfl⟩
  case rest =>
   obtain⟨rfl,f⟩:=hcut;have f:=f.symm;subst f;go_upto_region 18 with(first|(go_at_call 45;refine sC (zo _ _ _ _) ?_)|(go_at_call 100;refine sC (zF _ _) ?_)|(go_at_call 99;refine sC (zL _ _) ?_)|(go_at_call 53;refine sC (qe _ _ a) ?_))
   go_cut [9] (fun c C=>c=.bool B/\C=N)
   case first =>
    by_cases u0:now=0
    ·subst u0
     go_wp2;go_meet;exact⟨by rw[M.out,decide_eq_true (.inl rfl)],rfl⟩
    ·have U:(now == 0)=false:=by simpa using u0
     have Q:B=false:=by rw[M.out];exact decide_eq_false (fun h=>by rcases h with h|h;exact u0 h;exact absurd h.1 (by decide))
     go_wp2;go_meet;exact⟨by rw[Q],rfl⟩
   case rest =>
    obtain⟨rfl,g⟩:=hcut;have g:=g.symm;subst g;clear eo Z Y J K y z
    cases G with
    | false =>
     go_wp2;go_ret;exact⟨by rw[m.out];simp,d⟩
    | true =>
     cases F with
     | false =>
      go_wp2;go_ret;exact⟨by rw[m.out];simp,d⟩
     | true =>
      cases E with
      | false =>
       go_wp2;go_ret;exact⟨by rw[m.out];simp,d⟩
      | true =>
       cases H with
       | false =>
        go_wp2;go_ret;exact⟨by rw[m.out];simp,d⟩
       | true =>
        cases A with
        | false =>
         go_wp2;go_ret;exact⟨by rw[m.out];simp,d⟩
        | true =>
         cases B with
         | false =>
          go_wp2;go_ret;exact⟨by rw[m.out];simp,d⟩
         | true =>
          go_wp2;go_ret;exact⟨by rw[m.out];rfl,d⟩
theorem specOp_3 (own:ByteArray)(name:Int)(j:Option Addr)(lgn l:Nat)(lg:Nat->Int)(pe len hei cl:Int)(all:Bool)(be unt now:Int)(w:World)(d:own.size<=1000000000000000) :
  Calls Tryz.prog 122 #[.agg #[int i64 3,.string own,int i64 name,.slice j lgn l,int i64 pe,int i64 len,int i64 hei,int i64 cl,.bool all,int i64 be,int i64 unt,int i64 now]] w fun e w'=>e=.returned (.bool (decide (QZ ⟨3,own,name,lgn,lg,pe,len,hei,cl,all,be,unt,now⟩)))/\Below w.heap.size w w':=by
 obtain⟨R,J⟩:∃ R,R=decide (QZ ⟨3,own,name,lgn,lg,pe,len,hei,cl,all,be,unt,now⟩):=⟨_,rfl⟩;rw[← J];obtain⟨G,s⟩:∃ b,b=decide (Zj 3 own):=⟨_,rfl⟩;obtain⟨F,r⟩:∃ b,b=decide (ZA 3 name):=⟨_,rfl⟩;obtain⟨E,p⟩:∃ b,b=decide (zY 3 lgn):=⟨_,rfl⟩;obtain⟨H,t⟩:∃ b,b=decide (qf 3 ⟨pe,len,hei,cl,all,be⟩):=⟨_,rfl⟩;obtain⟨A,u⟩:∃ b,b=decide (Z7 3 unt):=⟨_,rfl⟩;obtain⟨B,v⟩:∃ b,b=decide (zbu 3 now):=⟨_,rfl⟩;have m:Hid (R=(G && F && E && H && A && B)):=by
  show R=(G && F && E && H && A && B)
  rw[J,s,r,p,t,u,v];exact Zs (k:=3) (by unfold In;omega)
 clear J;have eo:decide (qr own)=G:=by rw[s];exact decide_eq_decide.2 (by unfold Zj;simp)
 have Z:(name == 0)=F:=by rw[r,zbv name (k:=3) (by unfold In;omega)]
 have Y:decide (In (lgn:Int) 1 3)=E:=by rw[p];exact decide_eq_decide.2 (by unfold zY zO In;simp;omega)
 have T:=hI t;have M:=hI u;have N:=hI v;clear s r p t u v;have d9:decide (In 3 1 9)=true:=by decide
 have dn:decide (In 3 4 8)=false:=by decide
 have dl:decide (zO 3)=true:=by decide
 have n:Below w.heap.size w (w.alloc (.cells #[int i64 3,.string own,int i64 name,.slice j lgn l,int i64 pe,int i64 len,int i64 hei,int i64 cl,.bool all,int i64 be,int i64 unt,int i64 now] 120)):=zl bZ _;have D:=heap_alloc_new w (.cells #[int i64 3,.string own,int i64 name,.slice j lgn l,int i64 pe,int i64 len,int i64 hei,int i64 cl,.bool all,int i64 be,int i64 unt,int i64 now] 120);go_enter Tryz.func122,Tryz.ntmps122;go_upto_region 11 with(first|(go_at_call 45;refine sC (zo _ _ _ _) ?_)|(go_at_call 100;refine sC (zF _ _) ?_)|(go_at_call 99;refine sC (zL _ _) ?_)|(go_at_call 53;refine sC (qe _ _ d) ?_))
 generalize w.alloc (.cells #[int i64 3,.string own,int i64 name,.slice j lgn l,int i64 pe,int i64 len,int i64 hei,int i64 cl,.bool all,int i64 be,int i64 unt,int i64 now] 120)=W at n D ⊢;obtain⟨K,y1,y2,L,y4,y5,y6,y7,y8,y9,y,z⟩:=ce12 D;go_cut [7] (fun c C=>c=.bool (PZ pe len hei cl all be)/\C=W)
 case first =>
  by_cases gpe:pe=0
  ·subst gpe
   by_cases glen:len=0
   ·subst glen
    by_cases ghei:hei=0
    ·subst ghei
     by_cases gcl:cl=0
     ·subst gcl
      cases all with
      | true =>
       have i:PZ 0 0 0 0 true be=false:=qy (fun h=>by cases h.2.2.2.2.1)
       go_wp2;go_meet;exact⟨by rw[i],rfl⟩
      | false =>
       by_cases gbe:be=0
       ·subst gbe
        go_wp2;go_meet;exact⟨rfl,rfl⟩
       ·have V:(be == 0)=false:=by simpa using gbe
        have i:PZ 0 0 0 0 false be=false:=qy (fun h=>gbe h.2.2.2.2.2)
        go_wp2;go_meet;exact⟨by rw[i],rfl⟩
     ·have X:(cl == 0)=false:=by simpa using gcl
      have i:PZ 0 0 0 cl all be=false:=qy (fun h=>gcl h.2.2.2.1)
      go_wp2;go_meet;exact⟨by rw[i],rfl⟩
    ·have P:(hei == 0)=false:=by simpa using ghei
     have i:PZ 0 0 hei cl all be=false:=qy (fun h=>ghei h.2.2.1)
     go_wp2;go_meet;exact⟨by rw[i],rfl⟩
   ·have Q:(len == 0)=false:=by simpa using glen
    have i:PZ 0 len hei cl all be=false:=qy (fun h=>glen h.2.1)
    go_wp2;go_meet;exact⟨by rw[i],rfl⟩
  ·have a0:(pe == 0)=false:=by simpa using gpe
   have i:PZ pe len hei cl all be=false:=qy (fun h=>gpe h.1)
   go_wp2;go_meet;exact⟨by rw[i],rfl⟩
 case rest =>
  obtain⟨rfl,x⟩:=hcut;have x:=x.symm;subst x;generalize PZ pe len hei cl all be=pz at *;go_wp2_with (first|(go_at_call 45;refine sC (zo _ _ _ _) ?_)|(go_at_call 100;refine sC (zF _ _) ?_)|(go_at_call 99;refine sC (zL _ _) ?_)|(go_at_call 53;refine sC (qe _ _ d) ?_))
  refine(ZV pe len hei cl all be _).mono ?_;rintro e O ⟨⟨q,rfl,S⟩,o⟩;obtain rfl:H=q:=by rw[T.out];exact zaJ (k:=3) (.inr (.inr (.inl rfl))) S
  have b1:=zb D o;have a:=zf n o;clear n D o S K y1 y2 L y4 y5 y6 y7 y8 y9 y z;have K:=za b1 0 _ rfl;have L:=za b1 3 _ rfl;have y:=za b1 10 _ rfl;have z:=za b1 11 _ rfl;go_upto_region 17 with(first|(go_at_call 45;refine sC (zo _ _ _ _) ?_)|(go_at_call 100;refine sC (zF _ _) ?_)|(go_at_call 99;refine sC (zL _ _) ?_)|(go_at_call 53;refine sC (qe _ _ d) ?_))
  go_cut [8] (fun c C=>c=.bool A/\C=O)
  case first =>
   by_cases u0:unt=0
   ·subst u0
    go_wp2;go_meet;exact⟨by rw[M.out,decide_eq_true (.inl rfl)],rfl⟩
   ·have U:(unt == 0)=false:=by simpa using u0
    have I:A=false:=by rw[M.out];exact decide_eq_false (fun h=>by rcases h with h|h;exact u0 h;exact absurd h.1 (by decide))
    go_wp2;go_meet;exact⟨by rw[I],rfl⟩
  case rest =>
   obtain⟨rfl,f⟩:=hcut;have f:=f.symm;subst f;go_upto_region 18 with(first|(go_at_call 45;refine sC (zo _ _ _ _) ?_)|(go_at_call 100;refine sC (zF _ _) ?_)|(go_at_call 99;refine sC (zL _ _) ?_)|(go_at_call 53;refine sC (qe _ _ d) ?_))
   go_cut [9] (fun c C=>c=.bool B/\C=O)
   case first =>
    by_cases u0:now=0
    ·subst u0
     go_wp2;go_meet;exact⟨by rw[N.out,decide_eq_true (.inl rfl)],rfl⟩
    ·have U:(now == 0)=false:=by simpa using u0
     have I:B=false:=by rw[N.out];exact decide_eq_false (fun h=>by rcases h with h|h;exact u0 h;exact absurd h.1 (by decide))
     go_wp2;go_meet;exact⟨by rw[I],rfl⟩
   case rest =>
    obtain⟨rfl,g⟩:=hcut;have g:=g.symm;subst g;clear eo Z Y K L y z
    cases G with
    | false =>
     go_wp2;go_ret;exact⟨by rw[m.out];simp,a⟩
    | true =>
     cases F with
     | false =>
      go_wp2;go_ret;exact⟨by rw[m.out];simp,a⟩
     | true =>
      cases E with
      | false =>
       go_wp2;go_ret;exact⟨by rw[m.out];simp,a⟩
      | true =>
       cases H with
       | false =>
        go_wp2;go_ret;exact⟨by rw[m.out];simp,a⟩
       | true =>
        cases A with
        | false =>
         go_wp2;go_ret;exact⟨by rw[m.out];simp,a⟩
        | true =>
         cases B with
         | false =>
          go_wp2;go_ret;exact⟨by rw[m.out];simp,a⟩
         | true =>
          go_wp2;go_ret;exact⟨by rw[m.out];rfl,a⟩
end Go.Proofs.YtgmdnkngnhkgbaaGreat
