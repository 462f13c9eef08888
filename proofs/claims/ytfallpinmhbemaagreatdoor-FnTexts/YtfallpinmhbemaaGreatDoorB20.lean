import Derived.Test.YtfallpinmhbemaaGreatDoorB16
namespace Go.Proofs.YtfallpinmhbemaaGreatDoor
open Go.RowKit
open Go.Value (int)
open Go.IntKind (i64)
set_option maxHeartbeats 64000000
set_option maxRecDepth 1000000
theorem specOp_1 (own:ByteArray)(name:Int)(i:Option Addr)(lgn j:Nat)(lg:Nat->Int)(pe len hei cl:Int)(all:Bool)(be unt now:Int)(w:World)(_:own.size<=1000000000000000) :
  Calls Tryz.prog 18 #[.agg #[int i64 1,.string own,int i64 name,.slice i lgn j,int i64 pe,int i64 len,int i64 hei,int i64 cl,.bool all,int i64 be,int i64 unt,int i64 now]] w fun e w'=>e=.returned (.bool (decide (Qz ⟨1,own,name,lgn,lg,pe,len,hei,cl,all,be,unt,now⟩)))/\Below w.heap.size w w':=by
 obtain⟨R,I⟩:∃ R,R=decide (Qz ⟨1,own,name,lgn,lg,pe,len,hei,cl,all,be,unt,now⟩):=⟨_,rfl⟩;rw[← I];obtain⟨F,r⟩:∃ b,b=decide (qO 1 own):=⟨_,rfl⟩;obtain⟨E,p⟩:∃ b,b=decide (Zp 1 name):=⟨_,rfl⟩;obtain⟨D,o⟩:∃ b,b=decide (qj 1 lgn):=⟨_,rfl⟩;obtain⟨G,s⟩:∃ b,b=decide (qt 1 ⟨pe,len,hei,cl,all,be⟩):=⟨_,rfl⟩;obtain⟨z,t⟩:∃ b,b=decide (ZD 1 unt):=⟨_,rfl⟩;obtain⟨A,u⟩:∃ b,b=decide (zak 1 now):=⟨_,rfl⟩;have l:Hid (R=(F && E && D && G && z && A)):=by
  show R=(F && E && D && G && z && A)
  rw[I,r,p,o,s,t,u];exact ZQ (k:=1) (by unfold In;omega)
 clear I;have Y:own.toList.isEmpty=F:=by rw[r,Z8 own (k:=1) (by omega)]
 have X:(name == 0)=E:=by rw[p,zbe name (k:=1) (by unfold In;omega)]
 have el:decide (In (lgn:Int) 1 3)=D:=by rw[o];exact decide_eq_decide.2 (by unfold qj zR In;simp;omega)
 have S:=hI s;have L:=hI t;have M:=hI u;clear r p o s t u;have d9:decide (In 1 1 9)=true:=by decide
 have dn:decide (In 1 4 8)=false:=by decide
 have dl:decide (zR 1)=true:=by decide
 have m:Below w.heap.size w (w.alloc (.cells #[int i64 1,.string own,int i64 name,.slice i lgn j,int i64 pe,int i64 len,int i64 hei,int i64 cl,.bool all,int i64 be,int i64 unt,int i64 now] 27)):=zr bZ _;have C:=heap_alloc_new w (.cells #[int i64 1,.string own,int i64 name,.slice i lgn j,int i64 pe,int i64 len,int i64 hei,int i64 cl,.bool all,int i64 be,int i64 unt,int i64 now] 27);go_enter Tryz.func18,Tryz.ntmps18;go_upto_region 11 with(first|(go_at_call 19;refine sC (zx _ _ _ _) ?_)|(go_at_call 43;refine sC (zS _ _) ?_)|(go_at_call 44;refine sC (zY _ _) ?_))
 generalize w.alloc (.cells #[int i64 1,.string own,int i64 name,.slice i lgn j,int i64 pe,int i64 len,int i64 hei,int i64 cl,.bool all,int i64 be,int i64 unt,int i64 now] 27)=W at m C ⊢;obtain⟨J,y1,y2,K,y4,y5,y6,y7,y8,y9,x,y⟩:=ce12 C;go_cut [7] (fun c B=>c=.bool (PZ pe len hei cl all be)/\B=W)
 case first =>
  by_cases gpe:pe=0
  ·subst gpe
   by_cases glen:len=0
   ·subst glen
    by_cases ghei:hei=0
    ·subst ghei
     by_cases gcl:cl=0
     ·subst gcl
      cases all with
      | true =>
       have g:PZ 0 0 0 0 true be=false:=qS (fun h=>by cases h.2.2.2.2.1)
       go_wp2;go_meet;exact⟨by rw[g],rfl⟩
      | false =>
       by_cases gbe:be=0
       ·subst gbe
        go_wp2;go_meet;exact⟨rfl,rfl⟩
       ·have U:(be == 0)=false:=by simpa using gbe
        have g:PZ 0 0 0 0 false be=false:=qS (fun h=>gbe h.2.2.2.2.2)
        go_wp2;go_meet;exact⟨by rw[g],rfl⟩
     ·have V:(cl == 0)=false:=by simpa using gcl
      have g:PZ 0 0 0 cl all be=false:=qS (fun h=>gcl h.2.2.2.1)
      go_wp2;go_meet;exact⟨by rw[g],rfl⟩
    ·have O:(hei == 0)=false:=by simpa using ghei
     have g:PZ 0 0 hei cl all be=false:=qS (fun h=>ghei h.2.2.1)
     go_wp2;go_meet;exact⟨by rw[g],rfl⟩
   ·have P:(len == 0)=false:=by simpa using glen
    have g:PZ 0 len hei cl all be=false:=qS (fun h=>glen h.2.1)
    go_wp2;go_meet;exact⟨by rw[g],rfl⟩
  ·have Z:(pe == 0)=false:=by simpa using gpe
   have g:PZ pe len hei cl all be=false:=qS (fun h=>gpe h.1)
   go_wp2;go_meet;exact⟨by rw[g],rfl⟩
 case rest =>
  obtain⟨rfl,v⟩:=hcut;have v:=v.symm;subst v;generalize PZ pe len hei cl all be=pz at *;go_wp2_with (first|(go_at_call 19;refine sC (zx _ _ _ _) ?_)|(go_at_call 43;refine sC (zS _ _) ?_)|(go_at_call 44;refine sC (zY _ _) ?_))
  refine(Qm pe len hei cl all be _).mono ?_;rintro e N ⟨⟨q,rfl,Q⟩,n⟩;obtain rfl:G=q:=by rw[S.out];exact zal (k:=1) (.inl rfl) Q
  have b1:=zc C n;have a:=zj m n;clear m C n Q J y1 y2 K y4 y5 y6 y7 y8 y9 x y;have J:=za b1 0 _ rfl;have K:=za b1 3 _ rfl;have x:=za b1 10 _ rfl;have y:=za b1 11 _ rfl;go_upto_region 17 with(first|(go_at_call 19;refine sC (zx _ _ _ _) ?_)|(go_at_call 43;refine sC (zS _ _) ?_)|(go_at_call 44;refine sC (zY _ _) ?_))
  go_cut [8] (fun c B=>c=.bool z/\B=N)
  case first =>
   by_cases u0:unt=0
   ·subst u0
    go_wp2;go_meet;exact⟨by rw[L.out,decide_eq_true (.inl rfl)],rfl⟩
   ·have T:(unt == 0)=false:=by simpa using u0
    have H:z=false:=by rw[L.out];exact decide_eq_false (fun h=>by rcases h with h|h;exact u0 h;exact absurd h.1 (by decide))
    go_wp2;go_meet;exact⟨by rw[H],rfl⟩
  case rest =>
   obtain⟨rfl,d⟩:=hcut;have d:=d.symm;subst d;go_upto_region 18 with(first|(go_at_call 19;refine sC (zx _ _ _ _) ?_)|(go_at_call 43;refine sC (zS _ _) ?_)|(go_at_call 44;refine sC (zY _ _) ?_))
   go_cut [9] (fun c B=>c=.bool A/\B=N)
   case first =>
    by_cases u0:now=0
    ·subst u0
     go_wp2;go_meet;exact⟨by rw[M.out,decide_eq_true (.inl rfl)],rfl⟩
    ·have T:(now == 0)=false:=by simpa using u0
     have H:A=false:=by rw[M.out];exact decide_eq_false (fun h=>by rcases h with h|h;exact u0 h;exact absurd h.1 (by decide))
     go_wp2;go_meet;exact⟨by rw[H],rfl⟩
   case rest =>
    obtain⟨rfl,f⟩:=hcut;have f:=f.symm;subst f;clear Y X el J K x y
    cases F with
    | false =>
     go_wp2;go_ret;exact⟨by rw[l.out];simp,a⟩
    | true =>
     cases E with
     | false =>
      go_wp2;go_ret;exact⟨by rw[l.out];simp,a⟩
     | true =>
      cases D with
      | false =>
       go_wp2;go_ret;exact⟨by rw[l.out];simp,a⟩
      | true =>
       cases G with
       | false =>
        go_wp2;go_ret;exact⟨by rw[l.out];simp,a⟩
       | true =>
        cases z with
        | false =>
         go_wp2;go_ret;exact⟨by rw[l.out];simp,a⟩
        | true =>
         cases A with
         | false =>
          go_wp2;go_ret;exact⟨by rw[l.out];simp,a⟩
         | true =>
          go_wp2;go_ret;exact⟨by rw[l.out];rfl,a⟩
theorem specOp_2 (own:ByteArray)(name:Int)(j:Option Addr)(lgn l:Nat)(lg:Nat->Int)(pe len hei cl:Int)(all:Bool)(be unt now:Int)(w:World)(a:own.size<=1000000000000000) :
  Calls Tryz.prog 18 #[.agg #[int i64 2,.string own,int i64 name,.slice j lgn l,int i64 pe,int i64 len,int i64 hei,int i64 cl,.bool all,int i64 be,int i64 unt,int i64 now]] w fun e w'=>e=.returned (.bool (decide (Qz ⟨2,own,name,lgn,lg,pe,len,hei,cl,all,be,unt,now⟩)))/\Below w.heap.size w w':=by
 obtain⟨R,I⟩:∃ R,R=decide (Qz ⟨2,own,name,lgn,lg,pe,len,hei,cl,all,be,unt,now⟩):=⟨_,rfl⟩;rw[← I];obtain⟨G,s⟩:∃ b,b=decide (qO 2 own):=⟨_,rfl⟩;obtain⟨F,r⟩:∃ b,b=decide (Zp 2 name):=⟨_,rfl⟩;obtain⟨E,p⟩:∃ b,b=decide (qj 2 lgn):=⟨_,rfl⟩;obtain⟨H,t⟩:∃ b,b=decide (qt 2 ⟨pe,len,hei,cl,all,be⟩):=⟨_,rfl⟩;obtain⟨A,u⟩:∃ b,b=decide (ZD 2 unt):=⟨_,rfl⟩;obtain⟨B,v⟩:∃ b,b=decide (zak 2 now):=⟨_,rfl⟩;have m:Hid (R=(G && F && E && H && A && B)):=by
  show R=(G && F && E && H && A && B)
  rw[I,s,r,p,t,u,v];exact ZQ (k:=2) (by unfold In;omega)
 clear I;have Z:decide (qK own)=G:=by rw[s];exact decide_eq_decide.2 (by unfold qO;simp)
 have Y:(name == 0)=F:=by rw[r,zbe name (k:=2) (by unfold In;omega)]
 have el:decide (In (lgn:Int) 1 3)=E:=by rw[p];exact decide_eq_decide.2 (by unfold qj zR In;simp;omega)
 have T:=hI t;have L:=hI u;have M:=hI v;clear s r p t u v;have d9:decide (In 2 1 9)=true:=by decide
 have dn:decide (In 2 4 8)=false:=by decide
 have dl:decide (zR 2)=true:=by decide
 have n:Below w.heap.size w (w.alloc (.cells #[int i64 2,.string own,int i64 name,.slice j lgn l,int i64 pe,int i64 len,int i64 hei,int i64 cl,.bool all,int i64 be,int i64 unt,int i64 now] 27)):=zr bZ _;have D:=heap_alloc_new w (.cells #[int i64 2,.string own,int i64 name,.slice j lgn l,int i64 pe,int i64 len,int i64 hei,int i64 cl,.bool all,int i64 be,int i64 unt,int i64 now] 27);go_enter Tryz.func18,Tryz.ntmps18;go_upto_region 11 with(first|(go_at_call 19;refine sC (zx _ _ _ _) ?_)|(go_at_call 43;refine sC (zS _ _) ?_)|(go_at_call 44;refine sC (zY _ _) ?_)|(go_at_call 42;refine sC (qz _ _ a) ?_))
 generalize w.alloc (.cells #[int i64 2,.string own,int i64 name,.slice j lgn l,int i64 pe,int i64 len,int i64 hei,int i64 cl,.bool all,int i64 be,int i64 unt,int i64 now] 27)=W at n D ⊢;obtain⟨J,y1,y2,K,y4,y5,y6,y7,y8,y9,y,z⟩:=ce12 D;go_cut [7] (fun c C=>c=.bool (PZ pe len hei cl all be)/\C=W)
 case first =>
  by_cases gpe:pe=0
  ·subst gpe
   by_cases glen:len=0
   ·subst glen
    by_cases ghei:hei=0
    ·subst ghei
     by_cases gcl:cl=0
     ·subst gcl
      cases all with
      | true =>
       have i:PZ 0 0 0 0 true be=false:=qS (fun h=>by cases h.2.2.2.2.1)
       go_wp2;go_meet;exact⟨by rw[i],rfl⟩
      | false =>
       by_cases gbe:be=0
       ·subst gbe
        go_wp2;go_meet;exact⟨rfl,rfl⟩
       ·have V:(be == 0)=false:=by simpa using gbe
        have i:PZ 0 0 0 0 false be=false:=qS (fun h=>gbe h.2.2.2.2.2)
        go_wp2;go_meet;exact⟨by rw[i],rfl⟩
     ·have X:(cl == 0)=false:=by simpa using gcl
      have i:PZ 0 0 0 cl all be=false:=qS (fun h=>gcl h.2.2.2.1)
      go_wp2;go_meet;exact⟨by rw[i],rfl⟩
    ·have O:(hei == 0)=false:=by simpa using ghei
     have i:PZ 0 0 hei cl all be=false:=qS (fun h=>ghei h.2.2.1)
     go_wp2;go_meet;exact⟨by rw[i],rfl⟩
   ·have P:(len == 0)=false:=by simpa using glen
    have i:PZ 0 len hei cl all be=false:=qS (fun h=>glen h.2.1)
    go_wp2;go_meet;exact⟨by rw[i],rfl⟩
  ·have a0:(pe == 0)=false:=by simpa using gpe
   have i:PZ pe len hei cl all be=false:=qS (fun h=>gpe h.1)
   go_wp2;go_meet;exact⟨by rw[i],rfl⟩
 case rest =>
  obtain⟨rfl,x⟩:=hcut;have x:=x.symm;subst x;generalize PZ pe len hei cl all be=pz at *;go_wp2_with (first|(go_at_call 19;refine sC (zx _ _ _ _) ?_)|(go_at_call 43;refine sC (zS _ _) ?_)|(go_at_call 44;refine sC (zY _ _) ?_)|(go_at_call 42;refine sC (qz _ _ a) ?_))
  refine(Qm pe len hei cl all be _).mono ?_;rintro e N ⟨⟨q,rfl,S⟩,o⟩;obtain rfl:H=q:=by rw[T.out];exact zal (k:=2) (.inr (.inl rfl)) S
  have b1:=zc D o;have d:=zj n o;clear n D o S J y1 y2 K y4 y5 y6 y7 y8 y9 y z;have J:=za b1 0 _ rfl;have K:=za b1 3 _ rfl;have y:=za b1 10 _ rfl;have z:=za b1 11 _ rfl;go_upto_region 17 with(first|(go_at_call 19;refine sC (zx _ _ _ _) ?_)|(go_at_call 43;refine sC (zS _ _) ?_)|(go_at_call 44;refine sC (zY _ _) ?_)|(go_at_call 42;refine sC (qz _ _ a) ?_))
  go_cut [8] (fun c C=>c=.bool A/\C=N)
  case first =>
   by_cases u0:unt=0
   ·subst u0
    go_wp2;go_meet;exact⟨by rw[L.out,decide_eq_true (.inl rfl)],rfl⟩
   ·have U:(unt == 0)=false:=by simpa using u0
    have Q:decide (In unt 0 10000)=A:=by rw[L.out];exact decide_eq_decide.2 ⟨fun h=>.inr ⟨rfl,h⟩,fun h=>by rcases h with h|h;exact absurd h u0;exact h.2⟩
    go_wp2_with (first|(go_at_call 19;refine sC (zx _ _ _ _) ?_)|(go_at_call 43;refine sC (zS _ _) ?_)|(go_at_call 44;refine sC (zY _ _) ?_)|(go_at_call 42;refine sC (qz _ _ a) ?_))
    go_meet;exact⟨rfl,rfl⟩
  case rest =>
   obtain⟨rfl,f⟩:=hcut;have f:=f.symm;subst f;go_upto_region 18 with(first|(go_at_call 19;refine sC (zx _ _ _ _) ?_)|(go_at_call 43;refine sC (zS _ _) ?_)|(go_at_call 44;refine sC (zY _ _) ?_)|(go_at_call 42;refine sC (qz _ _ a) ?_))
   go_cut [9] (fun c C=>c=.bool B/\C=N)
   case first =>
    by_cases u0:now=0
    ·subst u0
     go_wp2;go_meet;exact⟨by rw[M.out,decide_eq_true (.inl rfl)],rfl⟩
    ·have U:(now == 0)=false:=by simpa using u0
     have Q:B=false:=by rw[M.out];exact decide_eq_false (fun h=>by rcases h with h|h;exact u0 h;exact absurd h.1 (by decide))
     go_wp2;go_meet;exact⟨by rw[Q],rfl⟩
   case rest =>
    obtain⟨rfl,g⟩:=hcut;have g:=g.symm;subst g;clear Z Y el J K y z
    cases G with
    | false =>
     go_wp2;go_ret;exact⟨by rw[m.out];simp,d⟩
    | true =>
     cases F with
     | false =>
      go_wp2;go_ret;exact⟨by rw[m.out];simp,d⟩
     | true =>
      cases E with
      | false =>
       go_wp2;go_ret;exact⟨by rw[m.out];simp,d⟩
      | true =>
       cases H with
       | false =>
        go_wp2;go_ret;exact⟨by rw[m.out];simp,d⟩
       | true =>
        cases A with
        | false =>
         go_wp2;go_ret;exact⟨by rw[m.out];simp,d⟩
        | true =>
         cases B with
         | false =>
          go_wp2;go_ret;exact⟨by rw[m.out];simp,d⟩
         | true =>
          go_wp2;go_ret;exact⟨by rw[m.out];rfl,d⟩
theorem specOp_3 (own:ByteArray)(name:Int)(j:Option Addr)(lgn l:Nat)(lg:Nat->Int)(pe len hei cl:Int)(all:Bool)(be unt now:Int)(w:World)(d:own.size<=1000000000000000) :
  Calls Tryz.prog 18 #[.agg #[int i64 3,.string own,int i64 name,.slice j lgn l,int i64 pe,int i64 len,int i64 hei,int i64 cl,.bool all,int i64 be,int i64 unt,int i64 now]] w fun e w'=>e=.returned (.bool (decide (Qz ⟨3,own,name,lgn,lg,pe,len,hei,cl,all,be,unt,now⟩)))/\Below w.heap.size w w':=by
 obtain⟨R,J⟩:∃ R,R=decide (Qz ⟨3,own,name,lgn,lg,pe,len,hei,cl,all,be,unt,now⟩):=⟨_,rfl⟩;rw[← J];obtain⟨G,s⟩:∃ b,b=decide (qO 3 own):=⟨_,rfl⟩;obtain⟨F,r⟩:∃ b,b=decide (Zp 3 name):=⟨_,rfl⟩;obtain⟨E,p⟩:∃ b,b=decide (qj 3 lgn):=⟨_,rfl⟩;obtain⟨H,t⟩:∃ b,b=decide (qt 3 ⟨pe,len,hei,cl,all,be⟩):=⟨_,rfl⟩;obtain⟨A,u⟩:∃ b,b=decide (ZD 3 unt):=⟨_,rfl⟩;obtain⟨B,v⟩:∃ b,b=decide (zak 3 now):=⟨_,rfl⟩;have m:Hid (R=(G && F && E && H && A && B)):=by
  show R=(G && F && E && H && A && B)
  rw[J,s,r,p,t,u,v];exact ZQ (k:=3) (by unfold In;omega)
 clear J;have Z:decide (qK own)=G:=by rw[s];exact decide_eq_decide.2 (by unfold qO;simp)
 have Y:(name == 0)=F:=by rw[r,zbe name (k:=3) (by unfold In;omega)]
 have el:decide (In (lgn:Int) 1 3)=E:=by rw[p];exact decide_eq_decide.2 (by unfold qj zR In;simp;omega)
 have T:=hI t;have M:=hI u;have N:=hI v;clear s r p t u v;have d9:decide (In 3 1 9)=true:=by decide
 have dn:decide (In 3 4 8)=false:=by decide
 have dl:decide (zR 3)=true:=by decide
 have n:Below w.heap.size w (w.alloc (.cells #[int i64 3,.string own,int i64 name,.slice j lgn l,int i64 pe,int i64 len,int i64 hei,int i64 cl,.bool all,int i64 be,int i64 unt,int i64 now] 27)):=zr bZ _;have D:=heap_alloc_new w (.cells #[int i64 3,.string own,int i64 name,.slice j lgn l,int i64 pe,int i64 len,int i64 hei,int i64 cl,.bool all,int i64 be,int i64 unt,int i64 now] 27);go_enter Tryz.func18,Tryz.ntmps18;go_upto_region 11 with(first|(go_at_call 19;refine sC (zx _ _ _ _) ?_)|(go_at_call 43;refine sC (zS _ _) ?_)|(go_at_call 44;refine sC (zY _ _) ?_)|(go_at_call 42;refine sC (qz _ _ d) ?_))
 generalize w.alloc (.cells #[int i64 3,.string own,int i64 name,.slice j lgn l,int i64 pe,int i64 len,int i64 hei,int i64 cl,.bool all,int i64 be,int i64 unt,int i64 now] 27)=W at n D ⊢;obtain⟨K,y1,y2,L,y4,y5,y6,y7,y8,y9,y,z⟩:=ce12 D;go_cut [7] (fun c C=>c=.bool (PZ pe len hei cl all be)/\C=W)
 case first =>
  by_cases gpe:pe=0
  ·subst gpe
   by_cases glen:len=0
   ·subst glen
    by_cases ghei:hei=0
    ·subst ghei
     by_cases gcl:cl=0
     ·subst gcl
      cases all with
      | true =>
       have i:PZ 0 0 0 0 true be=false:=qS (fun h=>by cases h.2.2.2.2.1)
       go_wp2;go_meet;exact⟨by rw[i],rfl⟩
      | false =>
       by_cases gbe:be=0
       ·subst gbe
        go_wp2;go_meet;exact⟨rfl,rfl⟩
       ·have V:(be == 0)=false:=by simpa using gbe
        have i:PZ 0 0 0 0 false be=false:=qS (fun h=>gbe h.2.2.2.2.2)
        go_wp2;go_meet;exact⟨by rw[i],rfl⟩
     ·have X:(cl == 0)=false:=by simpa using gcl
      have i:PZ 0 0 0 cl all be=false:=qS (fun h=>gcl h.2.2.2.1)
      go_wp2;go_meet;exact⟨by rw[i],rfl⟩
    ·have P:(hei == 0)=false:=by simpa using ghei
     have i:PZ 0 0 hei cl all be=false:=qS (fun h=>ghei h.2.2.1)
     go_wp2;go_meet;exact⟨by rw[i],rfl⟩
   ·have Q:(len == 0)=false:=by simpa using glen
    have i:PZ 0 len hei cl all be=false:=qS (fun h=>glen h.2.1)
    go_wp2;go_meet;exact⟨by rw[i],rfl⟩
  ·have a0:(pe == 0)=false:=by simpa using gpe
   have i:PZ pe len hei cl all be=false:=qS (fun h=>gpe h.1)
   go_wp2;go_meet;exact⟨by rw[i],rfl⟩
 case rest =>
  obtain⟨rfl,x⟩:=hcut;have x:=x.symm;subst x;generalize PZ pe len hei cl all be=pz at *;go_wp2_with (first|(go_at_call 19;refine sC (zx _ _ _ _) ?_)|(go_at_call 43;refine sC (zS _ _) ?_)|(go_at_call 44;refine sC (zY _ _) ?_)|(go_at_call 42;refine sC (qz _ _ d) ?_))
  refine(Qm pe len hei cl all be _).mono ?_;rintro e O ⟨⟨q,rfl,S⟩,o⟩;obtain rfl:H=q:=by rw[T.out];exact zal (k:=3) (.inr (.inr (.inl rfl))) S
  have b1:=zc D o;have a:=zj n o;clear n D o S K y1 y2 L y4 y5 y6 y7 y8 y9 y z;have K:=za b1 0 _ rfl;have L:=za b1 3 _ rfl;have y:=za b1 10 _ rfl;have z:=za b1 11 _ rfl;go_upto_region 17 with(first|(go_at_call 19;refine sC (zx _ _ _ _) ?_)|(go_at_call 43;refine sC (zS _ _) ?_)|(go_at_call 44;refine sC (zY _ _) ?_)|(go_at_call 42;refine sC (qz _ _ d) ?_))
  go_cut [8] (fun c C=>c=.bool A/\C=O)
  case first =>
   by_cases u0:unt=0
   ·subst u0
    go_wp2;go_meet;exact⟨by rw[M.out,decide_eq_true (.inl rfl)],rfl⟩
   ·have U:(unt == 0)=false:=by simpa using u0
    have I:A=false:=by rw[M.out];exact decide_eq_false (fun h=>by rcases h with h|h;exact u0 h;exact absurd h.1 (by decide))
    go_wp2;go_meet;exact⟨by rw[I],rfl⟩
  case rest =>
   obtain⟨rfl,f⟩:=hcut;have f:=f.symm;subst f;go_upto_region 18 with(first|(go_at_call 19;refine sC (zx _ _ _ _) ?_)|(go_at_call 43;refine sC (zS _ _) ?_)|(go_at_call 44;refine sC (zY _ _) ?_)|(go_at_call 42;refine sC (qz _ _ d) ?_))
   go_cut [9] (fun c C=>c=.bool B/\C=O)
   case first =>
    by_cases u0:now=0
    ·subst u0
     go_wp2;go_meet;exact⟨by rw[N.out,decide_eq_true (.inl rfl)],rfl⟩
    ·have U:(now == 0)=false:=by simpa using u0
     have I:B=false:=by rw[N.out];exact decide_eq_false (fun h=>by rcases h with h|h;exact u0 h;exact absurd h.1 (by decide))
     go_wp2;go_meet;exact⟨by rw[I],rfl⟩
   case rest =>
    obtain⟨rfl,g⟩:=hcut;have g:=g.symm;subst g;clear Z Y el K L y z
    cases G with
    | false =>
     go_wp2;go_ret;exact⟨by rw[m.out];simp,a⟩
    | true =>
     cases F with
     | false =>
      go_wp2;go_ret;exact⟨by rw[m.out];simp,a⟩
     | true =>
      cases E with
      | false =>
       go_wp2;go_ret;exact⟨by rw[m.out];simp,a⟩
      | true =>
       cases H with
       | false =>
        go_wp2;go_ret;exact⟨by rw[m.out];simp,a⟩
       | true =>
        cases A with
        | false =>
         go_wp2;go_ret;exact⟨by rw[m.out];simp,a⟩
        | true =>
         cases B with
         | false =>
          go_wp2;go_ret;exact⟨by rw[m.out];simp,a⟩
         | true =>
          go_wp2;go_ret;exact⟨by rw[m.out];rfl,a⟩
end Go.Proofs.YtfallpinmhbemaaGreatDoor
