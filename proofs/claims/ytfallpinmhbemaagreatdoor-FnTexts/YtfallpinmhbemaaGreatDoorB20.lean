/-
  OWN TEXT: SpecOa, SpecOb, SpecOd, SpecO2, SpecFt.
-/
import Derived.Deep.DeepCutAuto
import Derived.Test.YtfallpinmhbemaaGreatDoorB19
namespace Go.Proofs.YtfallpinmhbemaaGreatDoor
open Go.RowKit
open Go.Value (int)
open Go.IntKind (i64)
set_option maxHeartbeats 64000000
set_option maxRecDepth 100000
theorem specOp_1 (own:ByteArray)(name:Int)(i:Option Addr)(lgn j:Nat)(lg:Nat->Int)(pe len hei cl:Int)(all:Bool)(be unt now:Int)(w:World)(_:own.size<=1000000000000000) :
  Calls Tryz.prog 18 #[.agg #[int i64 1,.string own,int i64 name,.slice i lgn j,int i64 pe,int i64 len,int i64 hei,int i64 cl,.bool all,int i64 be,int i64 unt,int i64 now]] w fun e w'=>e=.returned (.bool (decide (Qz ⟨1,own,name,lgn,lg,pe,len,hei,cl,all,be,unt,now⟩)))/\Below w.heap.size w w':=by
 obtain⟨R,I⟩:∃ R,R=decide (Qz ⟨1,own,name,lgn,lg,pe,len,hei,cl,all,be,unt,now⟩):=⟨_,rfl⟩;rw[← I];obtain⟨F,r⟩:∃ b,b=decide (qO 1 own):=⟨_,rfl⟩;obtain⟨E,p⟩:∃ b,b=decide (Zp 1 name):=⟨_,rfl⟩;obtain⟨D,o⟩:∃ b,b=decide (qj 1 lgn):=⟨_,rfl⟩;obtain⟨G,s⟩:∃ b,b=decide (qt 1 ⟨pe,len,hei,cl,all,be⟩):=⟨_,rfl⟩;obtain⟨z,t⟩:∃ b,b=decide (ZD 1 unt):=⟨_,rfl⟩;obtain⟨A,u⟩:∃ b,b=decide (zak 1 now):=⟨_,rfl⟩;have l:Hid (R=(F && E && D && G && z && A)):=by
  show R=(F && E && D && G && z && A)
  rw[I,r,p,o,s,t,u];exact ZQ (k:=1) (by unfold In;omega)
 clear I;have Y:own.toList.isEmpty=F:=by rw[r,Z8 own (k:=1) (by omega)]
 have X:(name == 0)=E:=by rw[p,zbe name (k:=1) (by unfold In;omega)]
 have el:decide (In (lgn:Int) 1 3)=D:=by rw[o];exact decide_eq_decide.2 (by unfold qj zR In;simp;omega)
 have S:=hI s;have L:=hI t;have M:=hI u;clear r p o s t u;have d9:decide (In 1 1 9)=true:=by decide
 have dn:decide (In 1 4 8)=false:=by decide
 have dl:decide (zR 1)=true:=by decide
 have m:Below w.heap.size w (w.alloc (.cells #[int i64 1,.string own,int i64 name,.slice i lgn j,int i64 pe,int i64 len,int i64 hei,int i64 cl,.bool all,int i64 be,int i64 unt,int i64 now] 27)):=zr bZ _;have C:=heap_alloc_new w (.cells #[int i64 1,.string own,int i64 name,.slice i lgn j,int i64 pe,int i64 len,int i64 hei,int i64 cl,.bool all,int i64 be,int i64 unt,int i64 now] 27);go_enter Tryz.func18,Tryz.ntmps18;go_upto_region 11 with(first|(go_at_call 19;refine sC (zx _ _ _ _) ?_)|(go_at_call 43;refine sC (zS _ _) ?_)|(go_at_call 44;refine sC (zY _ _) ?_))
 generalize w.alloc (.cells #[int i64 1,.string own,int i64 name,.slice i lgn j,int i64 pe,int i64 len,int i64 hei,int i64 cl,.bool all,int i64 be,int i64 unt,int i64 now] 27)=W at m C ⊢;obtain⟨J,y1,y2,K,y4,y5,y6,y7,y8,y9,x,y⟩:=ce12 C;go_cut [7] (fun c B=>c=.bool (PZ pe len hei cl all be)/\B=W)
 case first =>
  by_cases gpe:pe=0
  ·subst gpe
   by_cases glen:len=0
   ·subst glen
    by_cases ghei:hei=0
    ·subst ghei
     by_cases gcl:cl=0
     ·subst gcl
      cases all with
      | true =>
       have g:PZ 0 0 0 0 true be=false:=qS (fun h=>by cases h.2.2.2.2.1)
       go_wp2;go_meet;exact⟨by rw[g],rfl⟩
      | false =>
       by_cases gbe:be=0
       ·subst gbe
        go_wp2;go_meet;exact⟨rfl,rfl⟩
       ·have U:(be == 0)=false:=by simpa using gbe
        have g:PZ 0 0 0 0 false be=false:=qS (fun h=>gbe h.2.2.2.2.2)
        go_wp2;go_meet;exact⟨by rw[g],rfl⟩
     ·have V:(cl == 0)=false:=by simpa using gcl
      have g:PZ 0 0 0 cl all be=false:=qS (fun h=>gcl h.2.2.2.1)
      go_wp2;go_meet;exact⟨by rw[g],rfl⟩
    ·have O:(hei == 0)=false:=by simpa using ghei
     have g:PZ 0 0 hei cl all be=false:=qS (fun h=>ghei h.2.2.1)
     go_wp2;go_meet;exact⟨by rw[g],rfl⟩
   ·have P:(len == 0)=false:=by simpa using glen
    have g:PZ 0 len hei cl all be=false:=qS (fun h=>glen h.2.1)
    go_wp2;go_meet;exact⟨by rw[g],rfl⟩
  ·have Z:(pe == 0)=false:=by simpa using gpe
   have g:PZ pe len hei cl all be=false:=qS (fun h=>gpe h.1)
   go_wp2;go_meet;exact⟨by rw[g],rfl⟩
 case rest =>
  obtain⟨rfl,v⟩:=hcut;have v:=v.symm;subst v;generalize PZ pe len hei cl all be=pz at *;go_wp2_with (first|(go_at_call 19;refine sC (zx _ _ _ _) ?_)|(go_at_call 43;refine sC (zS _ _) ?_)|(go_at_call 44;refine sC (zY _ _) ?_))
  refine(Qm pe len hei cl all be _).mono ?_;rintro e N ⟨⟨q,rfl,Q⟩,n⟩;obtain rfl:G=q:=by rw[S.out];exact zal (k:=1) (.inl rfl) Q
  have b1:=zc C n;have a:=zj m n;clear m C n Q J y1 y2 K y4 y5 y6 y7 y8 y9 x y;have J:=za b1 0 _ rfl;have K:=za b1 3 _ rfl;have x:=za b1 10 _ rfl;have y:=za b1 11 _ rfl;go_upto_region 17 with(first|(go_at_call 19;refine sC (zx _ _ _ _) ?_)|(go_at_call 43;refine sC (zS _ _) ?_)|(go_at_call 44;refine sC (zY _ _) ?_))
  go_cut [8] (fun c B=>c=.bool z/\B=N)
  case first =>
   by_cases u0:unt=0
   ·subst u0
    go_wp2;go_meet;exact⟨by rw[L.out,decide_eq_true (.inl rfl)],rfl⟩
   ·have T:(unt == 0)=false:=by simpa using u0
    have H:z=false:=by rw[L.out];exact decide_eq_false (fun h=>by rcases h with h|h;exact u0 h;exact absurd h.1 (by decide))
    go_wp2;go_meet;exact⟨by rw[H],rfl⟩
  case rest =>
   obtain⟨rfl,d⟩:=hcut;have d:=d.symm;subst d;go_upto_region 18 with(first|(go_at_call 19;refine sC (zx _ _ _ _) ?_)|(go_at_call 43;refine sC (zS _ _) ?_)|(go_at_call 44;refine sC (zY _ _) ?_))
   go_cut [9] (fun c B=>c=.bool A/\B=N)
   case first =>
    by_cases u0:now=0
    ·subst u0
     go_wp2;go_meet;exact⟨by rw[M.out,decide_eq_true (.inl rfl)],rfl⟩
    ·have T:(now == 0)=false:=by simpa using u0
     have H:A=false:=by rw[M.out];exact decide_eq_false (fun h=>by rcases h with h|h;exact u0 h;exact absurd h.1 (by decide))
     go_wp2;go_meet;exact⟨by rw[H],rfl⟩
   case rest =>
    obtain⟨rfl,f⟩:=hcut;have f:=f.symm;subst f;clear Y X el J K x y
    cases F with
    | false =>
     go_wp2;go_ret;exact⟨by rw[l.out];simp,a⟩
    | true =>
     cases E with
     | false =>
      go_wp2;go_ret;exact⟨by rw[l.out];simp,a⟩
     | true =>
      cases D with
      | false =>
       go_wp2;go_ret;exact⟨by rw[l.out];simp,a⟩
      | true =>
       cases G with
       | false =>
        go_wp2;go_ret;exact⟨by rw[l.out];simp,a⟩
       | true =>
        cases z with
        | false =>
         go_wp2;go_ret;exact⟨by rw[l.out];simp,a⟩
        | true =>
         cases A with
         | false =>
          go_wp2;go_ret;exact⟨by rw[l.out];simp,a⟩
         | true =>
          go_wp2;go_ret;exact⟨by rw[l.out];rfl,a⟩
theorem specOp_2 (own:ByteArray)(name:Int)(j:Option Addr)(lgn l:Nat)(lg:Nat->Int)(pe len hei cl:Int)(all:Bool)(be unt now:Int)(w:World)(a:own.size<=1000000000000000) :
  Calls Tryz.prog 18 #[.agg #[int i64 2,.string own,int i64 name,.slice j lgn l,int i64 pe,int i64 len,int i64 hei,int i64 cl,.bool all,int i64 be,int i64 unt,int i64 now]] w fun e w'=>e=.returned (.bool (decide (Qz ⟨2,own,name,lgn,lg,pe,len,hei,cl,all,be,unt,now⟩)))/\Below w.heap.size w w':=by
 obtain⟨R,I⟩:∃ R,R=decide (Qz ⟨2,own,name,lgn,lg,pe,len,hei,cl,all,be,unt,now⟩):=⟨_,rfl⟩;rw[← I];obtain⟨G,s⟩:∃ b,b=decide (qO 2 own):=⟨_,rfl⟩;obtain⟨F,r⟩:∃ b,b=decide (Zp 2 name):=⟨_,rfl⟩;obtain⟨E,p⟩:∃ b,b=decide (qj 2 lgn):=⟨_,rfl⟩;obtain⟨H,t⟩:∃ b,b=decide (qt 2 ⟨pe,len,hei,cl,all,be⟩):=⟨_,rfl⟩;obtain⟨A,u⟩:∃ b,b=decide (ZD 2 unt):=⟨_,rfl⟩;obtain⟨B,v⟩:∃ b,b=decide (zak 2 now):=⟨_,rfl⟩;have m:Hid (R=(G && F && E && H && A && B)):=by
  show R=(G && F && E && H && A && B)
  rw[I,s,r,p,t,u,v];exact ZQ (k:=2) (by unfold In;omega)
 clear I;have Z:decide (qK own)=G:=by rw[s];exact decide_eq_decide.2 (by unfold qO;simp)
 have Y:(name == 0)=F:=by rw[r,zbe name (k:=2) (by unfold In;omega)]
 have el:decide (In (lgn:Int) 1 3)=E:=by rw[p];exact decide_eq_decide.2 (by unfold qj zR In;simp;omega)
 have T:=hI t;have L:=hI u;have M:=hI v;clear s r p t u v;have d9:decide (In 2 1 9)=true:=by decide
 have dn:decide (In 2 4 8)=false:=by decide
 have dl:decide (zR 2)=true:=by decide
 have n:Below w.heap.size w (w.alloc (.cells #[int i64 2,.string own,int i64 name,.slice j lgn l,int i64 pe,int i64 len,int i64 hei,int i64 cl,.bool all,int i64 be,int i64 unt,int i64 now] 27)):=zr bZ _;have D:=heap_alloc_new w (.cells #[int i64 2,.string own,int i64 name,.slice j lgn l,int i64 pe,int i64 len,int i64 hei,int i64 cl,.bool all,int i64 be,int i64 unt,int i64 now] 27);go_enter Tryz.func18,Tryz.ntmps18;go_upto_region 11 with(first|(go_at_call 19;refine sC (zx _ _ _ _) ?_)|(go_at_call 43;refine sC (zS _ _) ?_)|(go_at_call 44;refine sC (zY _ _) ?_)|(go_at_call 42;refine sC (qz _ _ a) ?_))
 generalize w.alloc (.cells #[int i64 2,.string own,int i64 name,.slice j lgn l,int i64 pe,int i64 len,int i64 hei,int i64 cl,.bool all,int i64 be,int i64 unt,int i64 now] 27)=W at n D ⊢;obtain⟨J,y1,y2,K,y4,y5,y6,y7,y8,y9,y,z⟩:=ce12 D;go_cut [7] (fun c C=>c=.bool (PZ pe len hei cl all be)/\C=W)
 case first =>
  by_cases gpe:pe=0
  ·subst gpe
   by_cases glen:len=0
   ·subst glen
    by_cases ghei:hei=0
    ·subst ghei
     by_cases gcl:cl=0
     ·subst gcl
      cases all with
      | true =>
       have i:PZ 0 0 0 0 true be=false:=qS (fun h=>by cases h.2.2.2.2.1)
       go_wp2;go_meet;exact⟨by rw[i],rfl⟩
      | false =>
       by_cases gbe:be=0
       ·subst gbe
        go_wp2;go_meet;exact⟨rfl,rfl⟩
       ·have V:(be == 0)=false:=by simpa using gbe
        have i:PZ 0 0 0 0 false be=false:=qS (fun h=>gbe h.2.2.2.2.2)
        go_wp2;go_meet;exact⟨by rw[i],rfl⟩
     ·have X:(cl == 0)=false:=by simpa using gcl
      have i:PZ 0 0 0 cl all be=false:=qS (fun h=>gcl h.2.2.2.1)
      go_wp2;go_meet;exact⟨by rw[i],rfl⟩
    ·have O:(hei == 0)=false:=by simpa using ghei
     have i:PZ 0 0 hei cl all be=false:=qS (fun h=>ghei h.2.2.1)
     go_wp2;go_meet;exact⟨by rw[i],rfl⟩
   ·have P:(len == 0)=false:=by simpa using glen
    have i:PZ 0 len hei cl all be=false:=qS (fun h=>glen h.2.1)
    go_wp2;go_meet;exact⟨by rw[i],rfl⟩
  ·have a0:(pe == 0)=false:=by simpa using gpe
   have i:PZ pe len hei cl all be=false:=qS (fun h=>gpe h.1)
   go_wp2;go_meet;exact⟨by rw[i],rfl⟩
 case rest =>
  obtain⟨rfl,x⟩:=hcut;have x:=x.symm;subst x;generalize PZ pe len hei cl all be=pz at *;go_wp2_with (first|(go_at_call 19;refine sC (zx _ _ _ _) ?_)|(go_at_call 43;refine sC (zS _ _) ?_)|(go_at_call 44;refine sC (zY _ _) ?_)|(go_at_call 42;refine sC (qz _ _ a) ?_))
  refine(Qm pe len hei cl all be _).mono ?_;rintro e N ⟨⟨q,rfl,S⟩,o⟩;obtain rfl:H=q:=by rw[T.out];exact zal (k:=2) (.inr (.inl rfl)) S
  have b1:=zc D o;have d:=zj n o;clear n D o S J y1 y2 K y4 y5 y6 y7 y8 y9 y z;have J:=za b1 0 _ rfl;have K:=za b1 3 _ rfl;have y:=za b1 10 _ rfl;have z:=za b1 11 _ rfl;go_upto_region 17 with(first|(go_at_call 19;refine sC (zx _ _ _ _) ?_)|(go_at_call 43;refine sC (zS _ _) ?_)|(go_at_call 44;refine sC (zY _ _) ?_)|(go_at_call 42;refine sC (qz _ _ a) ?_))
  go_cut [8] (fun c C=>c=.bool A/\C=N)
  case first =>
   by_cases u0:unt=0
   ·subst u0
    go_wp2;go_meet;exact⟨by rw[L.out,decide_eq_true (.inl rfl)],rfl⟩
   ·have U:(unt == 0)=false:=by simpa using u0
    have Q:decide (In unt 0 10000)=A:=by rw[L.out];exact decide_eq_decide.2 ⟨fun h=>.inr ⟨rfl,h⟩,fun h=>by rcases h with h|h;exact absurd h u0;exact h.2⟩
    go_wp2_with (first|(go_at_call 19;refine sC (zx _ _ _ _) ?_)|(go_at_call 43;refine sC (zS _ _) ?_)|(go_at_call 44;refine sC (zY _ _) ?_)|(go_at_call 42;refine sC (qz _ _ a) ?_))
    go_meet;exact⟨rfl,rfl⟩
  case rest =>
   obtain⟨rfl,f⟩:=hcut;have f:=f.symm;subst f;go_upto_region 18 with(first|(go_at_call 19;refine sC (zx _ _ _ _) ?_)|(go_at_call 43;refine sC (zS _ _) ?_)|(go_at_call 44;refine sC (zY _ _) ?_)|(go_at_call 42;refine sC (qz _ _ a) ?_))
   go_cut [9] (fun c C=>c=.bool B/\C=N)
   case first =>
    by_cases u0:now=0
    ·subst u0
     go_wp2;go_meet;exact⟨by rw[M.out,decide_eq_true (.inl rfl)],rfl⟩
    ·have U:(now == 0)=false:=by simpa using u0
     have Q:B=false:=by rw[M.out];exact decide_eq_false (fun h=>by rcases h with h|h;exact u0 h;exact absurd h.1 (by decide))
     go_wp2;go_meet;exact⟨by rw[Q],rfl⟩
   case rest =>
    obtain⟨rfl,g⟩:=hcut;have g:=g.symm;subst g;clear Z Y el J K y z
    cases G with
    | false =>
     go_wp2;go_ret;exact⟨by rw[m.out];simp,d⟩
    | true =>
     cases F with
     | false =>
      go_wp2;go_ret;exact⟨by rw[m.out];simp,d⟩
     | true =>
      cases E with
      | false =>
       go_wp2;go_ret;exact⟨by rw[m.out];simp,d⟩
      | true =>
       cases H with
       | false =>
        go_wp2;go_ret;exact⟨by rw[m.out];simp,d⟩
       | true =>
        cases A with
        | false =>
         go_wp2;go_ret;exact⟨by rw[m.out];simp,d⟩
        | true =>
         cases B with
         | false =>
          go_wp2;go_ret;exact⟨by rw[m.out];simp,d⟩
         | true =>
          go_wp2;go_ret;exact⟨by rw[m.out];rfl,d⟩
theorem specOp_3 (own:ByteArray)(name:Int)(j:Option Addr)(lgn l:Nat)(lg:Nat->Int)(pe len hei cl:Int)(all:Bool)(be unt now:Int)(w:World)(d:own.size<=1000000000000000) :
  Calls Tryz.prog 18 #[.agg #[int i64 3,.string own,int i64 name,.slice j lgn l,int i64 pe,int i64 len,int i64 hei,int i64 cl,.bool all,int i64 be,int i64 unt,int i64 now]] w fun e w'=>e=.returned (.bool (decide (Qz ⟨3,own,name,lgn,lg,pe,len,hei,cl,all,be,unt,now⟩)))/\Below w.heap.size w w':=by
 obtain⟨R,J⟩:∃ R,R=decide (Qz ⟨3,own,name,lgn,lg,pe,len,hei,cl,all,be,unt,now⟩):=⟨_,rfl⟩;rw[← J];obtain⟨G,s⟩:∃ b,b=decide (qO 3 own):=⟨_,rfl⟩;obtain⟨F,r⟩:∃ b,b=decide (Zp 3 name):=⟨_,rfl⟩;obtain⟨E,p⟩:∃ b,b=decide (qj 3 lgn):=⟨_,rfl⟩;obtain⟨H,t⟩:∃ b,b=decide (qt 3 ⟨pe,len,hei,cl,all,be⟩):=⟨_,rfl⟩;obtain⟨A,u⟩:∃ b,b=decide (ZD 3 unt):=⟨_,rfl⟩;obtain⟨B,v⟩:∃ b,b=decide (zak 3 now):=⟨_,rfl⟩;have m:Hid (R=(G && F && E && H && A && B)):=by
  show R=(G && F && E && H && A && B)
  rw[J,s,r,p,t,u,v];exact ZQ (k:=3) (by unfold In;omega)
 clear J;have Z:decide (qK own)=G:=by rw[s];exact decide_eq_decide.2 (by unfold qO;simp)
 have Y:(name == 0)=F:=by rw[r,zbe name (k:=3) (by unfold In;omega)]
 have el:decide (In (lgn:Int) 1 3)=E:=by rw[p];exact decide_eq_decide.2 (by unfold qj zR In;simp;omega)
 have T:=hI t;have M:=hI u;have N:=hI v;clear s r p t u v;have d9:decide (In 3 1 9)=true:=by decide
 have dn:decide (In 3 4 8)=false:=by decide
 have dl:decide (zR 3)=true:=by decide
 have n:Below w.heap.size w (w.alloc (.cells #[int i64 3,.string own,int i64 name,.slice j lgn l,int i64 pe,int i64 len,int i64 hei,int i64 cl,.bool all,int i64 be,int i64 unt,int i64 now] 27)):=zr bZ _;have D:=heap_alloc_new w (.cells #[int i64 3,.string own,int i64 name,.slice j lgn l,int i64 pe,int i64 len,int i64 hei,int i64 cl,.bool all,int i64 be,int i64 unt,int i64 now] 27);go_enter Tryz.func18,Tryz.ntmps18;go_upto_region 11 with(first|(go_at_call 19;refine sC (zx _ _ _ _) ?_)|(go_at_call 43;refine sC (zS _ _) ?_)|(go_at_call 44;refine sC (zY _ _) ?_)|(go_at_call 42;refine sC (qz _ _ d) ?_))
 generalize w.alloc (.cells #[int i64 3,.string own,int i64 name,.slice j lgn l,int i64 pe,int i64 len,int i64 hei,int i64 cl,.bool all,int i64 be,int i64 unt,int i64 now] 27)=W at n D ⊢;obtain⟨K,y1,y2,L,y4,y5,y6,y7,y8,y9,y,z⟩:=ce12 D;go_cut [7] (fun c C=>c=.bool (PZ pe len hei cl all be)/\C=W)
 case first =>
  by_cases gpe:pe=0
  ·subst gpe
   by_cases glen:len=0
   ·subst glen
    by_cases ghei:hei=0
    ·subst ghei
     by_cases gcl:cl=0
     ·subst gcl
      cases all with
      | true =>
       have i:PZ 0 0 0 0 true be=false:=qS (fun h=>by cases h.2.2.2.2.1)
       go_wp2;go_meet;exact⟨by rw[i],rfl⟩
      | false =>
       by_cases gbe:be=0
       ·subst gbe
        go_wp2;go_meet;exact⟨rfl,rfl⟩
       ·have V:(be == 0)=false:=by simpa using gbe
        have i:PZ 0 0 0 0 false be=false:=qS (fun h=>gbe h.2.2.2.2.2)
        go_wp2;go_meet;exact⟨by rw[i],rfl⟩
     ·have X:(cl == 0)=false:=by simpa using gcl
      have i:PZ 0 0 0 cl all be=false:=qS (fun h=>gcl h.2.2.2.1)
      go_wp2;go_meet;exact⟨by rw[i],rfl⟩
    ·have P:(hei == 0)=false:=by simpa using ghei
     have i:PZ 0 0 hei cl all be=false:=qS (fun h=>ghei h.2.2.1)
     go_wp2;go_meet;exact⟨by rw[i],rfl⟩
   ·have Q:(len == 0)=false:=by simpa using glen
    have i:PZ 0 len hei cl all be=false:=qS (fun h=>glen h.2.1)
    go_wp2;go_meet;exact⟨by rw[i],rfl⟩
  ·have a0:(pe == 0)=false:=by simpa using gpe
   have i:PZ pe len hei cl all be=false:=qS (fun h=>gpe h.1)
   go_wp2;go_meet;exact⟨by rw[i],rfl⟩
 case rest =>
  obtain⟨rfl,x⟩:=hcut;have x:=x.symm;subst x;generalize PZ pe len hei cl all be=pz at *;go_wp2_with (first|(go_at_call 19;refine sC (zx _ _ _ _) ?_)|(go_at_call 43;refine sC (zS _ _) ?_)|(go_at_call 44;refine sC (zY _ _) ?_)|(go_at_call 42;refine sC (qz _ _ d) ?_))
  refine(Qm pe len hei cl all be _).mono ?_;rintro e O ⟨⟨q,rfl,S⟩,o⟩;obtain rfl:H=q:=by rw[T.out];exact zal (k:=3) (.inr (.inr (.inl rfl))) S
  have b1:=zc D o;have a:=zj n o;clear n D o S K y1 y2 L y4 y5 y6 y7 y8 y9 y z;have K:=za b1 0 _ rfl;have L:=za b1 3 _ rfl;have y:=za b1 10 _ rfl;have z:=za b1 11 _ rfl;go_upto_region 17 with(first|(go_at_call 19;refine sC (zx _ _ _ _) ?_)|(go_at_call 43;refine sC (zS _ _) ?_)|(go_at_call 44;refine sC (zY _ _) ?_)|(go_at_call 42;refine sC (qz _ _ d) ?_))
  go_cut [8] (fun c C=>c=.bool A/\C=O)
  case first =>
   by_cases u0:unt=0
   ·subst u0
    go_wp2;go_meet;exact⟨by rw[M.out,decide_eq_true (.inl rfl)],rfl⟩
   ·have U:(unt == 0)=false:=by simpa using u0
    have I:A=false:=by rw[M.out];exact decide_eq_false (fun h=>by rcases h with h|h;exact u0 h;exact absurd h.1 (by decide))
    go_wp2;go_meet;exact⟨by rw[I],rfl⟩
  case rest =>
   obtain⟨rfl,f⟩:=hcut;have f:=f.symm;subst f;go_upto_region 18 with(first|(go_at_call 19;refine sC (zx _ _ _ _) ?_)|(go_at_call 43;refine sC (zS _ _) ?_)|(go_at_call 44;refine sC (zY _ _) ?_)|(go_at_call 42;refine sC (qz _ _ d) ?_))
   go_cut [9] (fun c C=>c=.bool B/\C=O)
   case first =>
    by_cases u0:now=0
    ·subst u0
     go_wp2;go_meet;exact⟨by rw[N.out,decide_eq_true (.inl rfl)],rfl⟩
    ·have U:(now == 0)=false:=by simpa using u0
     have I:B=false:=by rw[N.out];exact decide_eq_false (fun h=>by rcases h with h|h;exact u0 h;exact absurd h.1 (by decide))
     go_wp2;go_meet;exact⟨by rw[I],rfl⟩
   case rest =>
    obtain⟨rfl,g⟩:=hcut;have g:=g.symm;subst g;clear Z Y el K L y z
    cases G with
    | false =>
     go_wp2;go_ret;exact⟨by rw[m.out];simp,a⟩
    | true =>
     cases F with
     | false =>
      go_wp2;go_ret;exact⟨by rw[m.out];simp,a⟩
     | true =>
      cases E with
      | false =>
       go_wp2;go_ret;exact⟨by rw[m.out];simp,a⟩
      | true =>
       cases H with
       | false =>
        go_wp2;go_ret;exact⟨by rw[m.out];simp,a⟩
       | true =>
        cases A with
        | false =>
         go_wp2;go_ret;exact⟨by rw[m.out];simp,a⟩
        | true =>
         cases B with
         | false =>
          go_wp2;go_ret;exact⟨by rw[m.out];simp,a⟩
         | true =>
          go_wp2;go_ret;exact⟨by rw[m.out];rfl,a⟩
theorem specOp_4 (own:ByteArray)(name:Int)(i:Option Addr)(lgn j:Nat)(lg:Nat->Int)(pe len hei cl:Int)(all:Bool)(be unt now:Int)(w:World)(_:own.size<=1000000000000000) :
  Calls Tryz.prog 18 #[.agg #[int i64 4,.string own,int i64 name,.slice i lgn j,int i64 pe,int i64 len,int i64 hei,int i64 cl,.bool all,int i64 be,int i64 unt,int i64 now]] w fun e w'=>e=.returned (.bool (decide (Qz ⟨4,own,name,lgn,lg,pe,len,hei,cl,all,be,unt,now⟩)))/\Below w.heap.size w w':=by
 obtain⟨R,E⟩:∃ R,R=decide (Qz ⟨4,own,name,lgn,lg,pe,len,hei,cl,all,be,unt,now⟩):=⟨_,rfl⟩;rw[← E];obtain⟨B,p⟩:∃ b,b=decide (qO 4 own):=⟨_,rfl⟩;obtain⟨A,o⟩:∃ b,b=decide (Zp 4 name):=⟨_,rfl⟩;obtain⟨z,n⟩:∃ b,b=decide (qj 4 lgn):=⟨_,rfl⟩;obtain⟨u,q⟩:∃ b,b=decide (qt 4 ⟨pe,len,hei,cl,all,be⟩):=⟨_,rfl⟩;obtain⟨v,r⟩:∃ b,b=decide (ZD 4 unt):=⟨_,rfl⟩;obtain⟨x,s⟩:∃ b,b=decide (zak 4 now):=⟨_,rfl⟩;have l:Hid (R=(B && A && z && u && v && x)):=by
  show R=(B && A && z && u && v && x)
  rw[E,p,o,n,q,r,s];exact ZQ (k:=4) (by unfold In;omega)
 clear E;have Q:own.toList.isEmpty=B:=by rw[p,Z8 own (k:=4) (by omega)]
 have P:decide (In name 1 30)=A:=by rw[o];exact decide_eq_decide.2 (by unfold Zp In;simp)
 have el:((lgn:Int) == 0)=z:=by rw[n,zbP];exact decide_eq_decide.2 (by unfold qj zR;simp)
 have L:=hI q;have H:=hI r;have I:=hI s;clear p o n q r s;have d9:decide (In 4 1 9)=true:=by decide
 have dn:decide (In 4 4 8)=true:=by decide
 have dl:decide (zR 4)=false:=by decide
 have m:Below w.heap.size w (w.alloc (.cells #[int i64 4,.string own,int i64 name,.slice i lgn j,int i64 pe,int i64 len,int i64 hei,int i64 cl,.bool all,int i64 be,int i64 unt,int i64 now] 27)):=zr bZ _;have C:=heap_alloc_new w (.cells #[int i64 4,.string own,int i64 name,.slice i lgn j,int i64 pe,int i64 len,int i64 hei,int i64 cl,.bool all,int i64 be,int i64 unt,int i64 now] 27);go_enter Tryz.func18,Tryz.ntmps18;go_upto_region 11 with(first|(go_at_call 19;refine sC (zx _ _ _ _) ?_)|(go_at_call 43;refine sC (zS _ _) ?_)|(go_at_call 44;refine sC (zY _ _) ?_))
 generalize w.alloc (.cells #[int i64 4,.string own,int i64 name,.slice i lgn j,int i64 pe,int i64 len,int i64 hei,int i64 cl,.bool all,int i64 be,int i64 unt,int i64 now] 27)=W at m C ⊢;obtain⟨T,U,V,X,Y,Z,y6,y7,y8,y9,F,G⟩:=ce12 C;go_cut [7] (fun c y=>c=.bool (PZ pe len hei cl all be)/\y=W)
 case first =>
  by_cases gpe:pe=0
  ·subst gpe
   by_cases glen:len=0
   ·subst glen
    by_cases ghei:hei=0
    ·subst ghei
     by_cases gcl:cl=0
     ·subst gcl
      cases all with
      | true =>
       have g:PZ 0 0 0 0 true be=false:=qS (fun h=>by cases h.2.2.2.2.1)
       go_wp2;go_meet;exact⟨by rw[g],rfl⟩
      | false =>
       by_cases gbe:be=0
       ·subst gbe
        go_wp2;go_meet;exact⟨rfl,rfl⟩
       ·have N:(be == 0)=false:=by simpa using gbe
        have g:PZ 0 0 0 0 false be=false:=qS (fun h=>gbe h.2.2.2.2.2)
        go_wp2;go_meet;exact⟨by rw[g],rfl⟩
     ·have O:(cl == 0)=false:=by simpa using gcl
      have g:PZ 0 0 0 cl all be=false:=qS (fun h=>gcl h.2.2.2.1)
      go_wp2;go_meet;exact⟨by rw[g],rfl⟩
    ·have J:(hei == 0)=false:=by simpa using ghei
     have g:PZ 0 0 hei cl all be=false:=qS (fun h=>ghei h.2.2.1)
     go_wp2;go_meet;exact⟨by rw[g],rfl⟩
   ·have K:(len == 0)=false:=by simpa using glen
    have g:PZ 0 len hei cl all be=false:=qS (fun h=>glen h.2.1)
    go_wp2;go_meet;exact⟨by rw[g],rfl⟩
  ·have S:(pe == 0)=false:=by simpa using gpe
   have g:PZ pe len hei cl all be=false:=qS (fun h=>gpe h.1)
   go_wp2;go_meet;exact⟨by rw[g],rfl⟩
 case rest =>
  obtain⟨rfl,t⟩:=hcut;have t:=t.symm;subst t;obtain rfl:PZ pe len hei cl all be=u:=by rw[L.out];exact QV (k:=4) (by unfold zR;omega)
  generalize PZ pe len hei cl all be=u at *;have a:=m;clear m C;go_upto_region 17 with(first|(go_at_call 19;refine sC (zx _ _ _ _) ?_)|(go_at_call 43;refine sC (zS _ _) ?_)|(go_at_call 44;refine sC (zY _ _) ?_))
  go_cut [8] (fun c y=>c=.bool v/\y=W)
  case first =>
   by_cases u0:unt=0
   ·subst u0
    go_wp2;go_meet;exact⟨by rw[H.out,decide_eq_true (.inl rfl)],rfl⟩
   ·have M:(unt == 0)=false:=by simpa using u0
    have D:v=false:=by rw[H.out];exact decide_eq_false (fun h=>by rcases h with h|h;exact u0 h;exact absurd h.1 (by decide))
    go_wp2;go_meet;exact⟨by rw[D],rfl⟩
  case rest =>
   obtain⟨rfl,d⟩:=hcut;have d:=d.symm;subst d;go_upto_region 18 with(first|(go_at_call 19;refine sC (zx _ _ _ _) ?_)|(go_at_call 43;refine sC (zS _ _) ?_)|(go_at_call 44;refine sC (zY _ _) ?_))
   go_cut [9] (fun c y=>c=.bool x/\y=W)
   case first =>
    by_cases u0:now=0
    ·subst u0
     go_wp2;go_meet;exact⟨by rw[I.out,decide_eq_true (.inl rfl)],rfl⟩
    ·have M:(now == 0)=false:=by simpa using u0
     have D:x=false:=by rw[I.out];exact decide_eq_false (fun h=>by rcases h with h|h;exact u0 h;exact absurd h.1 (by decide))
     go_wp2;go_meet;exact⟨by rw[D],rfl⟩
   case rest =>
    obtain⟨rfl,f⟩:=hcut;have f:=f.symm;subst f;clear Q P el T U V X Y Z y6 y7 y8 y9 F G
    cases B with
    | false =>
     go_wp2;go_ret;exact⟨by rw[l.out];simp,a⟩
    | true =>
     cases A with
     | false =>
      go_wp2;go_ret;exact⟨by rw[l.out];simp,a⟩
     | true =>
      cases z with
      | false =>
       go_wp2;go_ret;exact⟨by rw[l.out];simp,a⟩
      | true =>
       cases u with
       | false =>
        go_wp2;go_ret;exact⟨by rw[l.out];simp,a⟩
       | true =>
        cases v with
        | false =>
         go_wp2;go_ret;exact⟨by rw[l.out];simp,a⟩
        | true =>
         cases x with
         | false =>
          go_wp2;go_ret;exact⟨by rw[l.out];simp,a⟩
         | true =>
          go_wp2;go_ret;exact⟨by rw[l.out];rfl,a⟩
theorem specOp_5 (own:ByteArray)(name:Int)(i:Option Addr)(lgn j:Nat)(lg:Nat->Int)(pe len hei cl:Int)(all:Bool)(be unt now:Int)(w:World)(_:own.size<=1000000000000000) :
  Calls Tryz.prog 18 #[.agg #[int i64 5,.string own,int i64 name,.slice i lgn j,int i64 pe,int i64 len,int i64 hei,int i64 cl,.bool all,int i64 be,int i64 unt,int i64 now]] w fun e w'=>e=.returned (.bool (decide (Qz ⟨5,own,name,lgn,lg,pe,len,hei,cl,all,be,unt,now⟩)))/\Below w.heap.size w w':=by
 obtain⟨R,I⟩:∃ R,R=decide (Qz ⟨5,own,name,lgn,lg,pe,len,hei,cl,all,be,unt,now⟩):=⟨_,rfl⟩;rw[← I];obtain⟨F,r⟩:∃ b,b=decide (qO 5 own):=⟨_,rfl⟩;obtain⟨E,p⟩:∃ b,b=decide (Zp 5 name):=⟨_,rfl⟩;obtain⟨D,o⟩:∃ b,b=decide (qj 5 lgn):=⟨_,rfl⟩;obtain⟨G,s⟩:∃ b,b=decide (qt 5 ⟨pe,len,hei,cl,all,be⟩):=⟨_,rfl⟩;obtain⟨z,t⟩:∃ b,b=decide (ZD 5 unt):=⟨_,rfl⟩;obtain⟨A,u⟩:∃ b,b=decide (zak 5 now):=⟨_,rfl⟩;have l:Hid (R=(F && E && D && G && z && A)):=by
  show R=(F && E && D && G && z && A)
  rw[I,r,p,o,s,t,u];exact ZQ (k:=5) (by unfold In;omega)
 clear I;have Y:own.toList.isEmpty=F:=by rw[r,Z8 own (k:=5) (by omega)]
 have X:decide (In name 1 30)=E:=by rw[p];exact decide_eq_decide.2 (by unfold Zp In;simp)
 have el:decide (In (lgn:Int) 1 3)=D:=by rw[o];exact decide_eq_decide.2 (by unfold qj zR In;simp;omega)
 have S:=hI s;have L:=hI t;have M:=hI u;clear r p o s t u;have d9:decide (In 5 1 9)=true:=by decide
 have dn:decide (In 5 4 8)=true:=by decide
 have dl:decide (zR 5)=true:=by decide
 have m:Below w.heap.size w (w.alloc (.cells #[int i64 5,.string own,int i64 name,.slice i lgn j,int i64 pe,int i64 len,int i64 hei,int i64 cl,.bool all,int i64 be,int i64 unt,int i64 now] 27)):=zr bZ _;have C:=heap_alloc_new w (.cells #[int i64 5,.string own,int i64 name,.slice i lgn j,int i64 pe,int i64 len,int i64 hei,int i64 cl,.bool all,int i64 be,int i64 unt,int i64 now] 27);go_enter Tryz.func18,Tryz.ntmps18;go_upto_region 11 with(first|(go_at_call 19;refine sC (zx _ _ _ _) ?_)|(go_at_call 43;refine sC (zS _ _) ?_)|(go_at_call 44;refine sC (zY _ _) ?_))
 generalize w.alloc (.cells #[int i64 5,.string own,int i64 name,.slice i lgn j,int i64 pe,int i64 len,int i64 hei,int i64 cl,.bool all,int i64 be,int i64 unt,int i64 now] 27)=W at m C ⊢;obtain⟨J,y1,y2,K,y4,y5,y6,y7,y8,y9,x,y⟩:=ce12 C;go_cut [7] (fun c B=>c=.bool (PZ pe len hei cl all be)/\B=W)
 case first =>
  by_cases gpe:pe=0
  ·subst gpe
   by_cases glen:len=0
   ·subst glen
    by_cases ghei:hei=0
    ·subst ghei
     by_cases gcl:cl=0
     ·subst gcl
      cases all with
      | true =>
       have g:PZ 0 0 0 0 true be=false:=qS (fun h=>by cases h.2.2.2.2.1)
       go_wp2;go_meet;exact⟨by rw[g],rfl⟩
      | false =>
       by_cases gbe:be=0
       ·subst gbe
        go_wp2;go_meet;exact⟨rfl,rfl⟩
       ·have U:(be == 0)=false:=by simpa using gbe
        have g:PZ 0 0 0 0 false be=false:=qS (fun h=>gbe h.2.2.2.2.2)
        go_wp2;go_meet;exact⟨by rw[g],rfl⟩
     ·have V:(cl == 0)=false:=by simpa using gcl
      have g:PZ 0 0 0 cl all be=false:=qS (fun h=>gcl h.2.2.2.1)
      go_wp2;go_meet;exact⟨by rw[g],rfl⟩
    ·have O:(hei == 0)=false:=by simpa using ghei
     have g:PZ 0 0 hei cl all be=false:=qS (fun h=>ghei h.2.2.1)
     go_wp2;go_meet;exact⟨by rw[g],rfl⟩
   ·have P:(len == 0)=false:=by simpa using glen
    have g:PZ 0 len hei cl all be=false:=qS (fun h=>glen h.2.1)
    go_wp2;go_meet;exact⟨by rw[g],rfl⟩
  ·have Z:(pe == 0)=false:=by simpa using gpe
   have g:PZ pe len hei cl all be=false:=qS (fun h=>gpe h.1)
   go_wp2;go_meet;exact⟨by rw[g],rfl⟩
 case rest =>
  obtain⟨rfl,v⟩:=hcut;have v:=v.symm;subst v;generalize PZ pe len hei cl all be=pz at *;go_wp2_with (first|(go_at_call 19;refine sC (zx _ _ _ _) ?_)|(go_at_call 43;refine sC (zS _ _) ?_)|(go_at_call 44;refine sC (zY _ _) ?_))
  refine(Qm pe len hei cl all be _).mono ?_;rintro e N ⟨⟨q,rfl,Q⟩,n⟩;obtain rfl:G=q:=by rw[S.out];exact zal (k:=5) (.inr (.inr (.inr rfl))) Q
  have b1:=zc C n;have a:=zj m n;clear m C n Q J y1 y2 K y4 y5 y6 y7 y8 y9 x y;have J:=za b1 0 _ rfl;have K:=za b1 3 _ rfl;have x:=za b1 10 _ rfl;have y:=za b1 11 _ rfl;go_upto_region 17 with(first|(go_at_call 19;refine sC (zx _ _ _ _) ?_)|(go_at_call 43;refine sC (zS _ _) ?_)|(go_at_call 44;refine sC (zY _ _) ?_))
  go_cut [8] (fun c B=>c=.bool z/\B=N)
  case first =>
   by_cases u0:unt=0
   ·subst u0
    go_wp2;go_meet;exact⟨by rw[L.out,decide_eq_true (.inl rfl)],rfl⟩
   ·have T:(unt == 0)=false:=by simpa using u0
    have H:z=false:=by rw[L.out];exact decide_eq_false (fun h=>by rcases h with h|h;exact u0 h;exact absurd h.1 (by decide))
    go_wp2;go_meet;exact⟨by rw[H],rfl⟩
  case rest =>
   obtain⟨rfl,d⟩:=hcut;have d:=d.symm;subst d;go_upto_region 18 with(first|(go_at_call 19;refine sC (zx _ _ _ _) ?_)|(go_at_call 43;refine sC (zS _ _) ?_)|(go_at_call 44;refine sC (zY _ _) ?_))
   go_cut [9] (fun c B=>c=.bool A/\B=N)
   case first =>
    by_cases u0:now=0
    ·subst u0
     go_wp2;go_meet;exact⟨by rw[M.out,decide_eq_true (.inl rfl)],rfl⟩
    ·have T:(now == 0)=false:=by simpa using u0
     have H:A=false:=by rw[M.out];exact decide_eq_false (fun h=>by rcases h with h|h;exact u0 h;exact absurd h.1 (by decide))
     go_wp2;go_meet;exact⟨by rw[H],rfl⟩
   case rest =>
    obtain⟨rfl,f⟩:=hcut;have f:=f.symm;subst f;clear Y X el J K x y
    cases F with
    | false =>
     go_wp2;go_ret;exact⟨by rw[l.out];simp,a⟩
    | true =>
     cases E with
     | false =>
      go_wp2;go_ret;exact⟨by rw[l.out];simp,a⟩
     | true =>
      cases D with
      | false =>
       go_wp2;go_ret;exact⟨by rw[l.out];simp,a⟩
      | true =>
       cases G with
       | false =>
        go_wp2;go_ret;exact⟨by rw[l.out];simp,a⟩
       | true =>
        cases z with
        | false =>
         go_wp2;go_ret;exact⟨by rw[l.out];simp,a⟩
        | true =>
         cases A with
         | false =>
          go_wp2;go_ret;exact⟨by rw[l.out];simp,a⟩
         | true =>
          go_wp2;go_ret;exact⟨by rw[l.out];rfl,a⟩
theorem specOp_6 (own:ByteArray)(name:Int)(i:Option Addr)(lgn j:Nat)(lg:Nat->Int)(pe len hei cl:Int)(all:Bool)(be unt now:Int)(w:World)(_:own.size<=1000000000000000) :
  Calls Tryz.prog 18 #[.agg #[int i64 6,.string own,int i64 name,.slice i lgn j,int i64 pe,int i64 len,int i64 hei,int i64 cl,.bool all,int i64 be,int i64 unt,int i64 now]] w fun e w'=>e=.returned (.bool (decide (Qz ⟨6,own,name,lgn,lg,pe,len,hei,cl,all,be,unt,now⟩)))/\Below w.heap.size w w':=by
 obtain⟨R,D⟩:∃ R,R=decide (Qz ⟨6,own,name,lgn,lg,pe,len,hei,cl,all,be,unt,now⟩):=⟨_,rfl⟩;rw[← D];obtain⟨B,p⟩:∃ b,b=decide (qO 6 own):=⟨_,rfl⟩;obtain⟨A,o⟩:∃ b,b=decide (Zp 6 name):=⟨_,rfl⟩;obtain⟨z,n⟩:∃ b,b=decide (qj 6 lgn):=⟨_,rfl⟩;obtain⟨u,q⟩:∃ b,b=decide (qt 6 ⟨pe,len,hei,cl,all,be⟩):=⟨_,rfl⟩;obtain⟨v,r⟩:∃ b,b=decide (ZD 6 unt):=⟨_,rfl⟩;obtain⟨x,s⟩:∃ b,b=decide (zak 6 now):=⟨_,rfl⟩;have l:Hid (R=(B && A && z && u && v && x)):=by
  show R=(B && A && z && u && v && x)
  rw[D,p,o,n,q,r,s];exact ZQ (k:=6) (by unfold In;omega)
 clear D;have Q:own.toList.isEmpty=B:=by rw[p,Z8 own (k:=6) (by omega)]
 have P:decide (In name 1 30)=A:=by rw[o];exact decide_eq_decide.2 (by unfold Zp In;simp)
 have el:((lgn:Int) == 0)=z:=by rw[n,zbP];exact decide_eq_decide.2 (by unfold qj zR;simp)
 have L:=hI q;have G:=hI r;have H:=hI s;clear p o n q r s;have d9:decide (In 6 1 9)=true:=by decide
 have dn:decide (In 6 4 8)=true:=by decide
 have dl:decide (zR 6)=false:=by decide
 have m:Below w.heap.size w (w.alloc (.cells #[int i64 6,.string own,int i64 name,.slice i lgn j,int i64 pe,int i64 len,int i64 hei,int i64 cl,.bool all,int i64 be,int i64 unt,int i64 now] 27)):=zr bZ _;have C:=heap_alloc_new w (.cells #[int i64 6,.string own,int i64 name,.slice i lgn j,int i64 pe,int i64 len,int i64 hei,int i64 cl,.bool all,int i64 be,int i64 unt,int i64 now] 27);go_enter Tryz.func18,Tryz.ntmps18;go_upto_region 11 with(first|(go_at_call 19;refine sC (zx _ _ _ _) ?_)|(go_at_call 43;refine sC (zS _ _) ?_)|(go_at_call 44;refine sC (zY _ _) ?_))
 generalize w.alloc (.cells #[int i64 6,.string own,int i64 name,.slice i lgn j,int i64 pe,int i64 len,int i64 hei,int i64 cl,.bool all,int i64 be,int i64 unt,int i64 now] 27)=W at m C ⊢;obtain⟨T,U,V,X,Y,Z,y6,y7,y8,y9,E,F⟩:=ce12 C;go_cut [7] (fun c y=>c=.bool (PZ pe len hei cl all be)/\y=W)
 case first =>
  by_cases gpe:pe=0
  ·subst gpe
   by_cases glen:len=0
   ·subst glen
    by_cases ghei:hei=0
    ·subst ghei
     by_cases gcl:cl=0
     ·subst gcl
      cases all with
      | true =>
       have g:PZ 0 0 0 0 true be=false:=qS (fun h=>by cases h.2.2.2.2.1)
       go_wp2;go_meet;exact⟨by rw[g],rfl⟩
      | false =>
       by_cases gbe:be=0
       ·subst gbe
        go_wp2;go_meet;exact⟨rfl,rfl⟩
       ·have N:(be == 0)=false:=by simpa using gbe
        have g:PZ 0 0 0 0 false be=false:=qS (fun h=>gbe h.2.2.2.2.2)
        go_wp2;go_meet;exact⟨by rw[g],rfl⟩
     ·have O:(cl == 0)=false:=by simpa using gcl
      have g:PZ 0 0 0 cl all be=false:=qS (fun h=>gcl h.2.2.2.1)
      go_wp2;go_meet;exact⟨by rw[g],rfl⟩
    ·have I:(hei == 0)=false:=by simpa using ghei
     have g:PZ 0 0 hei cl all be=false:=qS (fun h=>ghei h.2.2.1)
     go_wp2;go_meet;exact⟨by rw[g],rfl⟩
   ·have J:(len == 0)=false:=by simpa using glen
    have g:PZ 0 len hei cl all be=false:=qS (fun h=>glen h.2.1)
    go_wp2;go_meet;exact⟨by rw[g],rfl⟩
  ·have S:(pe == 0)=false:=by simpa using gpe
   have g:PZ pe len hei cl all be=false:=qS (fun h=>gpe h.1)
   go_wp2;go_meet;exact⟨by rw[g],rfl⟩
 case rest =>
  obtain⟨rfl,t⟩:=hcut;have t:=t.symm;subst t;obtain rfl:PZ pe len hei cl all be=u:=by rw[L.out];exact QV (k:=6) (by unfold zR;omega)
  generalize PZ pe len hei cl all be=u at *;have a:=m;clear m C;go_upto_region 17 with(first|(go_at_call 19;refine sC (zx _ _ _ _) ?_)|(go_at_call 43;refine sC (zS _ _) ?_)|(go_at_call 44;refine sC (zY _ _) ?_))
  go_cut [8] (fun c y=>c=.bool v/\y=W)
  case first =>
   by_cases u0:unt=0
   ·subst u0
    go_wp2;go_meet;exact⟨by rw[G.out,decide_eq_true (.inl rfl)],rfl⟩
   ·have M:(unt == 0)=false:=by simpa using u0
    have K:v=false:=by rw[G.out];exact decide_eq_false (fun h=>by rcases h with h|h;exact u0 h;exact absurd h.1 (by decide))
    go_wp2;go_meet;exact⟨by rw[K],rfl⟩
  case rest =>
   obtain⟨rfl,d⟩:=hcut;have d:=d.symm;subst d;go_upto_region 18 with(first|(go_at_call 19;refine sC (zx _ _ _ _) ?_)|(go_at_call 43;refine sC (zS _ _) ?_)|(go_at_call 44;refine sC (zY _ _) ?_))
   go_cut [9] (fun c y=>c=.bool x/\y=W)
   case first =>
    by_cases u0:now=0
    ·subst u0
     go_wp2;go_meet;exact⟨by rw[H.out,decide_eq_true (.inl rfl)],rfl⟩
    ·have M:(now == 0)=false:=by simpa using u0
     have K:decide (In now 0 10000)=x:=by rw[H.out];exact decide_eq_decide.2 ⟨fun h=>.inr ⟨.inr rfl,h⟩,fun h=>by rcases h with h|h;exact absurd h u0;exact h.2⟩
     go_wp2_with (first|(go_at_call 19;refine sC (zx _ _ _ _) ?_)|(go_at_call 43;refine sC (zS _ _) ?_)|(go_at_call 44;refine sC (zY _ _) ?_))
     go_meet;exact⟨rfl,rfl⟩
   case rest =>
    obtain⟨rfl,f⟩:=hcut;have f:=f.symm;subst f;clear Q P el T U V X Y Z y6 y7 y8 y9 E F
    cases B with
    | false =>
     go_wp2;go_ret;exact⟨by rw[l.out];simp,a⟩
    | true =>
     cases A with
     | false =>
      go_wp2;go_ret;exact⟨by rw[l.out];simp,a⟩
     | true =>
      cases z with
      | false =>
       go_wp2;go_ret;exact⟨by rw[l.out];simp,a⟩
      | true =>
       cases u with
       | false =>
        go_wp2;go_ret;exact⟨by rw[l.out];simp,a⟩
       | true =>
        cases v with
        | false =>
         go_wp2;go_ret;exact⟨by rw[l.out];simp,a⟩
        | true =>
         cases x with
         | false =>
          go_wp2;go_ret;exact⟨by rw[l.out];simp,a⟩
         | true =>
          go_wp2;go_ret;exact⟨by rw[l.out];rfl,a⟩
theorem specOp_7 (own:ByteArray)(name:Int)(j:Option Addr)(lgn l:Nat)(lg:Nat->Int)(pe len hei cl:Int)(all:Bool)(be unt now:Int)(w:World)(d:own.size<=1000000000000000) :
  Calls Tryz.prog 18 #[.agg #[int i64 7,.string own,int i64 name,.slice j lgn l,int i64 pe,int i64 len,int i64 hei,int i64 cl,.bool all,int i64 be,int i64 unt,int i64 now]] w fun e w'=>e=.returned (.bool (decide (Qz ⟨7,own,name,lgn,lg,pe,len,hei,cl,all,be,unt,now⟩)))/\Below w.heap.size w w':=by
 obtain⟨R,F⟩:∃ R,R=decide (Qz ⟨7,own,name,lgn,lg,pe,len,hei,cl,all,be,unt,now⟩):=⟨_,rfl⟩;rw[← F];obtain⟨C,q⟩:∃ b,b=decide (qO 7 own):=⟨_,rfl⟩;obtain⟨B,p⟩:∃ b,b=decide (Zp 7 name):=⟨_,rfl⟩;obtain⟨A,o⟩:∃ b,b=decide (qj 7 lgn):=⟨_,rfl⟩;obtain⟨v,r⟩:∃ b,b=decide (qt 7 ⟨pe,len,hei,cl,all,be⟩):=⟨_,rfl⟩;obtain⟨x,s⟩:∃ b,b=decide (ZD 7 unt):=⟨_,rfl⟩;obtain⟨y,t⟩:∃ b,b=decide (zak 7 now):=⟨_,rfl⟩;have m:Hid (R=(C && B && A && v && x && y)):=by
  show R=(C && B && A && v && x && y)
  rw[F,q,p,o,r,s,t];exact ZQ (k:=7) (by unfold In;omega)
 clear F;have S:decide (qK own)=C:=by rw[q];exact decide_eq_decide.2 (by unfold qO;simp)
 have Q:decide (In name 1 30)=B:=by rw[p];exact decide_eq_decide.2 (by unfold Zp In;simp)
 have el:((lgn:Int) == 0)=A:=by rw[o,zbP];exact decide_eq_decide.2 (by unfold qj zR;simp)
 have M:=hI r;have I:=hI s;have J:=hI t;clear q p o r s t;have d9:decide (In 7 1 9)=true:=by decide
 have dn:decide (In 7 4 8)=true:=by decide
 have dl:decide (zR 7)=false:=by decide
 have n:Below w.heap.size w (w.alloc (.cells #[int i64 7,.string own,int i64 name,.slice j lgn l,int i64 pe,int i64 len,int i64 hei,int i64 cl,.bool all,int i64 be,int i64 unt,int i64 now] 27)):=zr bZ _;have D:=heap_alloc_new w (.cells #[int i64 7,.string own,int i64 name,.slice j lgn l,int i64 pe,int i64 len,int i64 hei,int i64 cl,.bool all,int i64 be,int i64 unt,int i64 now] 27);go_enter Tryz.func18,Tryz.ntmps18;go_upto_region 11 with(first|(go_at_call 19;refine sC (zx _ _ _ _) ?_)|(go_at_call 43;refine sC (zS _ _) ?_)|(go_at_call 44;refine sC (zY _ _) ?_)|(go_at_call 42;refine sC (qz _ _ d) ?_))
 generalize w.alloc (.cells #[int i64 7,.string own,int i64 name,.slice j lgn l,int i64 pe,int i64 len,int i64 hei,int i64 cl,.bool all,int i64 be,int i64 unt,int i64 now] 27)=W at n D ⊢;obtain⟨U,V,X,Y,Z,y5,y6,y7,y8,y9,G,H⟩:=ce12 D;go_cut [7] (fun c z=>c=.bool (PZ pe len hei cl all be)/\z=W)
 case first =>
  by_cases gpe:pe=0
  ·subst gpe
   by_cases glen:len=0
   ·subst glen
    by_cases ghei:hei=0
    ·subst ghei
     by_cases gcl:cl=0
     ·subst gcl
      cases all with
      | true =>
       have i:PZ 0 0 0 0 true be=false:=qS (fun h=>by cases h.2.2.2.2.1)
       go_wp2;go_meet;exact⟨by rw[i],rfl⟩
      | false =>
       by_cases gbe:be=0
       ·subst gbe
        go_wp2;go_meet;exact⟨rfl,rfl⟩
       ·have O:(be == 0)=false:=by simpa using gbe
        have i:PZ 0 0 0 0 false be=false:=qS (fun h=>gbe h.2.2.2.2.2)
        go_wp2;go_meet;exact⟨by rw[i],rfl⟩
     ·have P:(cl == 0)=false:=by simpa using gcl
      have i:PZ 0 0 0 cl all be=false:=qS (fun h=>gcl h.2.2.2.1)
      go_wp2;go_meet;exact⟨by rw[i],rfl⟩
    ·have K:(hei == 0)=false:=by simpa using ghei
     have i:PZ 0 0 hei cl all be=false:=qS (fun h=>ghei h.2.2.1)
     go_wp2;go_meet;exact⟨by rw[i],rfl⟩
   ·have L:(len == 0)=false:=by simpa using glen
    have i:PZ 0 len hei cl all be=false:=qS (fun h=>glen h.2.1)
    go_wp2;go_meet;exact⟨by rw[i],rfl⟩
  ·have T:(pe == 0)=false:=by simpa using gpe
   have i:PZ pe len hei cl all be=false:=qS (fun h=>gpe h.1)
   go_wp2;go_meet;exact⟨by rw[i],rfl⟩
 case rest =>
  obtain⟨rfl,u⟩:=hcut;have u:=u.symm;subst u;obtain rfl:PZ pe len hei cl all be=v:=by rw[M.out];exact QV (k:=7) (by unfold zR;omega)
  generalize PZ pe len hei cl all be=v at *;have a:=n;clear n D;go_upto_region 17 with(first|(go_at_call 19;refine sC (zx _ _ _ _) ?_)|(go_at_call 43;refine sC (zS _ _) ?_)|(go_at_call 44;refine sC (zY _ _) ?_)|(go_at_call 42;refine sC (qz _ _ d) ?_))
  go_cut [8] (fun c z=>c=.bool x/\z=W)
  case first =>
   by_cases u0:unt=0
   ·subst u0
    go_wp2;go_meet;exact⟨by rw[I.out,decide_eq_true (.inl rfl)],rfl⟩
   ·have N:(unt == 0)=false:=by simpa using u0
    have E:x=false:=by rw[I.out];exact decide_eq_false (fun h=>by rcases h with h|h;exact u0 h;exact absurd h.1 (by decide))
    go_wp2;go_meet;exact⟨by rw[E],rfl⟩
  case rest =>
   obtain⟨rfl,f⟩:=hcut;have f:=f.symm;subst f;go_upto_region 18 with(first|(go_at_call 19;refine sC (zx _ _ _ _) ?_)|(go_at_call 43;refine sC (zS _ _) ?_)|(go_at_call 44;refine sC (zY _ _) ?_)|(go_at_call 42;refine sC (qz _ _ d) ?_))
   go_cut [9] (fun c z=>c=.bool y/\z=W)
   case first =>
    by_cases u0:now=0
    ·subst u0
     go_wp2;go_meet;exact⟨by rw[J.out,decide_eq_true (.inl rfl)],rfl⟩
    ·have N:(now == 0)=false:=by simpa using u0
     have E:y=false:=by rw[J.out];exact decide_eq_false (fun h=>by rcases h with h|h;exact u0 h;exact absurd h.1 (by decide))
     go_wp2;go_meet;exact⟨by rw[E],rfl⟩
   case rest =>
    obtain⟨rfl,g⟩:=hcut;have g:=g.symm;subst g;clear S Q el U V X Y Z y5 y6 y7 y8 y9 G H
    cases C with
    | false =>
     go_wp2;go_ret;exact⟨by rw[m.out];simp,a⟩
    | true =>
     cases B with
     | false =>
      go_wp2;go_ret;exact⟨by rw[m.out];simp,a⟩
     | true =>
      cases A with
      | false =>
       go_wp2;go_ret;exact⟨by rw[m.out];simp,a⟩
      | true =>
       cases v with
       | false =>
        go_wp2;go_ret;exact⟨by rw[m.out];simp,a⟩
       | true =>
        cases x with
        | false =>
         go_wp2;go_ret;exact⟨by rw[m.out];simp,a⟩
        | true =>
         cases y with
         | false =>
          go_wp2;go_ret;exact⟨by rw[m.out];simp,a⟩
         | true =>
          go_wp2;go_ret;exact⟨by rw[m.out];rfl,a⟩
theorem specOp_8 (own:ByteArray)(name:Int)(i:Option Addr)(lgn j:Nat)(lg:Nat->Int)(pe len hei cl:Int)(all:Bool)(be unt now:Int)(w:World)(_:own.size<=1000000000000000) :
  Calls Tryz.prog 18 #[.agg #[int i64 8,.string own,int i64 name,.slice i lgn j,int i64 pe,int i64 len,int i64 hei,int i64 cl,.bool all,int i64 be,int i64 unt,int i64 now]] w fun e w'=>e=.returned (.bool (decide (Qz ⟨8,own,name,lgn,lg,pe,len,hei,cl,all,be,unt,now⟩)))/\Below w.heap.size w w':=by
 obtain⟨R,D⟩:∃ R,R=decide (Qz ⟨8,own,name,lgn,lg,pe,len,hei,cl,all,be,unt,now⟩):=⟨_,rfl⟩;rw[← D];obtain⟨B,p⟩:∃ b,b=decide (qO 8 own):=⟨_,rfl⟩;obtain⟨A,o⟩:∃ b,b=decide (Zp 8 name):=⟨_,rfl⟩;obtain⟨z,n⟩:∃ b,b=decide (qj 8 lgn):=⟨_,rfl⟩;obtain⟨u,q⟩:∃ b,b=decide (qt 8 ⟨pe,len,hei,cl,all,be⟩):=⟨_,rfl⟩;obtain⟨v,r⟩:∃ b,b=decide (ZD 8 unt):=⟨_,rfl⟩;obtain⟨x,s⟩:∃ b,b=decide (zak 8 now):=⟨_,rfl⟩;have l:Hid (R=(B && A && z && u && v && x)):=by
  show R=(B && A && z && u && v && x)
  rw[D,p,o,n,q,r,s];exact ZQ (k:=8) (by unfold In;omega)
 clear D;have Q:own.toList.isEmpty=B:=by rw[p,Z8 own (k:=8) (by omega)]
 have P:decide (In name 1 30)=A:=by rw[o];exact decide_eq_decide.2 (by unfold Zp In;simp)
 have el:((lgn:Int) == 0)=z:=by rw[n,zbP];exact decide_eq_decide.2 (by unfold qj zR;simp)
 have L:=hI q;have G:=hI r;have H:=hI s;clear p o n q r s;have d9:decide (In 8 1 9)=true:=by decide
 have dn:decide (In 8 4 8)=true:=by decide
 have dl:decide (zR 8)=false:=by decide
 have m:Below w.heap.size w (w.alloc (.cells #[int i64 8,.string own,int i64 name,.slice i lgn j,int i64 pe,int i64 len,int i64 hei,int i64 cl,.bool all,int i64 be,int i64 unt,int i64 now] 27)):=zr bZ _;have C:=heap_alloc_new w (.cells #[int i64 8,.string own,int i64 name,.slice i lgn j,int i64 pe,int i64 len,int i64 hei,int i64 cl,.bool all,int i64 be,int i64 unt,int i64 now] 27);go_enter Tryz.func18,Tryz.ntmps18;go_upto_region 11 with(first|(go_at_call 19;refine sC (zx _ _ _ _) ?_)|(go_at_call 43;refine sC (zS _ _) ?_)|(go_at_call 44;refine sC (zY _ _) ?_))
 generalize w.alloc (.cells #[int i64 8,.string own,int i64 name,.slice i lgn j,int i64 pe,int i64 len,int i64 hei,int i64 cl,.bool all,int i64 be,int i64 unt,int i64 now] 27)=W at m C ⊢;obtain⟨T,U,V,X,Y,Z,y6,y7,y8,y9,E,F⟩:=ce12 C;go_cut [7] (fun c y=>c=.bool (PZ pe len hei cl all be)/\y=W)
 case first =>
  by_cases gpe:pe=0
  ·subst gpe
   by_cases glen:len=0
   ·subst glen
    by_cases ghei:hei=0
    ·subst ghei
     by_cases gcl:cl=0
     ·subst gcl
      cases all with
      | true =>
       have g:PZ 0 0 0 0 true be=false:=qS (fun h=>by cases h.2.2.2.2.1)
       go_wp2;go_meet;exact⟨by rw[g],rfl⟩
      | false =>
       by_cases gbe:be=0
       ·subst gbe
        go_wp2;go_meet;exact⟨rfl,rfl⟩
       ·have N:(be == 0)=false:=by simpa using gbe
        have g:PZ 0 0 0 0 false be=false:=qS (fun h=>gbe h.2.2.2.2.2)
        go_wp2;go_meet;exact⟨by rw[g],rfl⟩
     ·have O:(cl == 0)=false:=by simpa using gcl
      have g:PZ 0 0 0 cl all be=false:=qS (fun h=>gcl h.2.2.2.1)
      go_wp2;go_meet;exact⟨by rw[g],rfl⟩
    ·have I:(hei == 0)=false:=by simpa using ghei
     have g:PZ 0 0 hei cl all be=false:=qS (fun h=>ghei h.2.2.1)
     go_wp2;go_meet;exact⟨by rw[g],rfl⟩
   ·have J:(len == 0)=false:=by simpa using glen
    have g:PZ 0 len hei cl all be=false:=qS (fun h=>glen h.2.1)
    go_wp2;go_meet;exact⟨by rw[g],rfl⟩
  ·have S:(pe == 0)=false:=by simpa using gpe
   have g:PZ pe len hei cl all be=false:=qS (fun h=>gpe h.1)
   go_wp2;go_meet;exact⟨by rw[g],rfl⟩
 case rest =>
  obtain⟨rfl,t⟩:=hcut;have t:=t.symm;subst t;obtain rfl:PZ pe len hei cl all be=u:=by rw[L.out];exact QV (k:=8) (by unfold zR;omega)
  generalize PZ pe len hei cl all be=u at *;have a:=m;clear m C;go_upto_region 17 with(first|(go_at_call 19;refine sC (zx _ _ _ _) ?_)|(go_at_call 43;refine sC (zS _ _) ?_)|(go_at_call 44;refine sC (zY _ _) ?_))
  go_cut [8] (fun c y=>c=.bool v/\y=W)
  case first =>
   by_cases u0:unt=0
   ·subst u0
    go_wp2;go_meet;exact⟨by rw[G.out,decide_eq_true (.inl rfl)],rfl⟩
   ·have M:(unt == 0)=false:=by simpa using u0
    have K:v=false:=by rw[G.out];exact decide_eq_false (fun h=>by rcases h with h|h;exact u0 h;exact absurd h.1 (by decide))
    go_wp2;go_meet;exact⟨by rw[K],rfl⟩
  case rest =>
   obtain⟨rfl,d⟩:=hcut;have d:=d.symm;subst d;go_upto_region 18 with(first|(go_at_call 19;refine sC (zx _ _ _ _) ?_)|(go_at_call 43;refine sC (zS _ _) ?_)|(go_at_call 44;refine sC (zY _ _) ?_))
   go_cut [9] (fun c y=>c=.bool x/\y=W)
   case first =>
    by_cases u0:now=0
    ·subst u0
     go_wp2;go_meet;exact⟨by rw[H.out,decide_eq_true (.inl rfl)],rfl⟩
    ·have M:(now == 0)=false:=by simpa using u0
     have K:decide (In now 0 10000)=x:=by rw[H.out];exact decide_eq_decide.2 ⟨fun h=>.inr ⟨.inl rfl,h⟩,fun h=>by rcases h with h|h;exact absurd h u0;exact h.2⟩
     go_wp2_with (first|(go_at_call 19;refine sC (zx _ _ _ _) ?_)|(go_at_call 43;refine sC (zS _ _) ?_)|(go_at_call 44;refine sC (zY _ _) ?_))
     go_meet;exact⟨rfl,rfl⟩
   case rest =>
    obtain⟨rfl,f⟩:=hcut;have f:=f.symm;subst f;clear Q P el T U V X Y Z y6 y7 y8 y9 E F
    cases B with
    | false =>
     go_wp2;go_ret;exact⟨by rw[l.out];simp,a⟩
    | true =>
     cases A with
     | false =>
      go_wp2;go_ret;exact⟨by rw[l.out];simp,a⟩
     | true =>
      cases z with
      | false =>
       go_wp2;go_ret;exact⟨by rw[l.out];simp,a⟩
      | true =>
       cases u with
       | false =>
        go_wp2;go_ret;exact⟨by rw[l.out];simp,a⟩
       | true =>
        cases v with
        | false =>
         go_wp2;go_ret;exact⟨by rw[l.out];simp,a⟩
        | true =>
         cases x with
         | false =>
          go_wp2;go_ret;exact⟨by rw[l.out];simp,a⟩
         | true =>
          go_wp2;go_ret;exact⟨by rw[l.out];rfl,a⟩
theorem specOp_9 (own:ByteArray)(name:Int)(i:Option Addr)(lgn j:Nat)(lg:Nat->Int)(pe len hei cl:Int)(all:Bool)(be unt now:Int)(w:World)(_:own.size<=1000000000000000) :
  Calls Tryz.prog 18 #[.agg #[int i64 9,.string own,int i64 name,.slice i lgn j,int i64 pe,int i64 len,int i64 hei,int i64 cl,.bool all,int i64 be,int i64 unt,int i64 now]] w fun e w'=>e=.returned (.bool (decide (Qz ⟨9,own,name,lgn,lg,pe,len,hei,cl,all,be,unt,now⟩)))/\Below w.heap.size w w':=by
 obtain⟨R,E⟩:∃ R,R=decide (Qz ⟨9,own,name,lgn,lg,pe,len,hei,cl,all,be,unt,now⟩):=⟨_,rfl⟩;rw[← E];obtain⟨B,p⟩:∃ b,b=decide (qO 9 own):=⟨_,rfl⟩;obtain⟨A,o⟩:∃ b,b=decide (Zp 9 name):=⟨_,rfl⟩;obtain⟨z,n⟩:∃ b,b=decide (qj 9 lgn):=⟨_,rfl⟩;obtain⟨u,q⟩:∃ b,b=decide (qt 9 ⟨pe,len,hei,cl,all,be⟩):=⟨_,rfl⟩;obtain⟨v,r⟩:∃ b,b=decide (ZD 9 unt):=⟨_,rfl⟩;obtain⟨x,s⟩:∃ b,b=decide (zak 9 now):=⟨_,rfl⟩;have l:Hid (R=(B && A && z && u && v && x)):=by
  show R=(B && A && z && u && v && x)
  rw[E,p,o,n,q,r,s];exact ZQ (k:=9) (by unfold In;omega)
 clear E;have Q:own.toList.isEmpty=B:=by rw[p,Z8 own (k:=9) (by omega)]
 have P:(name == 0)=A:=by rw[o,zbe name (k:=9) (by unfold In;omega)]
 have el:((lgn:Int) == 1)=z:=by rw[n,int_one];exact decide_eq_decide.2 (by unfold qj zR;simp)
 have L:=hI q;have H:=hI r;have I:=hI s;clear p o n q r s;have d9:decide (In 9 1 9)=true:=by decide
 have dn:decide (In 9 4 8)=false:=by decide
 have dl:decide (zR 9)=false:=by decide
 have m:Below w.heap.size w (w.alloc (.cells #[int i64 9,.string own,int i64 name,.slice i lgn j,int i64 pe,int i64 len,int i64 hei,int i64 cl,.bool all,int i64 be,int i64 unt,int i64 now] 27)):=zr bZ _;have C:=heap_alloc_new w (.cells #[int i64 9,.string own,int i64 name,.slice i lgn j,int i64 pe,int i64 len,int i64 hei,int i64 cl,.bool all,int i64 be,int i64 unt,int i64 now] 27);go_enter Tryz.func18,Tryz.ntmps18;go_upto_region 11 with(first|(go_at_call 19;refine sC (zx _ _ _ _) ?_)|(go_at_call 43;refine sC (zS _ _) ?_)|(go_at_call 44;refine sC (zY _ _) ?_))
 generalize w.alloc (.cells #[int i64 9,.string own,int i64 name,.slice i lgn j,int i64 pe,int i64 len,int i64 hei,int i64 cl,.bool all,int i64 be,int i64 unt,int i64 now] 27)=W at m C ⊢;obtain⟨T,U,V,X,Y,Z,y6,y7,y8,y9,F,G⟩:=ce12 C;go_cut [7] (fun c y=>c=.bool (PZ pe len hei cl all be)/\y=W)
 case first =>
  by_cases gpe:pe=0
  ·subst gpe
   by_cases glen:len=0
   ·subst glen
    by_cases ghei:hei=0
    ·subst ghei
     by_cases gcl:cl=0
     ·subst gcl
      cases all with
      | true =>
       have g:PZ 0 0 0 0 true be=false:=qS (fun h=>by cases h.2.2.2.2.1)
       go_wp2;go_meet;exact⟨by rw[g],rfl⟩
      | false =>
       by_cases gbe:be=0
       ·subst gbe
        go_wp2;go_meet;exact⟨rfl,rfl⟩
       ·have N:(be == 0)=false:=by simpa using gbe
        have g:PZ 0 0 0 0 false be=false:=qS (fun h=>gbe h.2.2.2.2.2)
        go_wp2;go_meet;exact⟨by rw[g],rfl⟩
     ·have O:(cl == 0)=false:=by simpa using gcl
      have g:PZ 0 0 0 cl all be=false:=qS (fun h=>gcl h.2.2.2.1)
      go_wp2;go_meet;exact⟨by rw[g],rfl⟩
    ·have J:(hei == 0)=false:=by simpa using ghei
     have g:PZ 0 0 hei cl all be=false:=qS (fun h=>ghei h.2.2.1)
     go_wp2;go_meet;exact⟨by rw[g],rfl⟩
   ·have K:(len == 0)=false:=by simpa using glen
    have g:PZ 0 len hei cl all be=false:=qS (fun h=>glen h.2.1)
    go_wp2;go_meet;exact⟨by rw[g],rfl⟩
  ·have S:(pe == 0)=false:=by simpa using gpe
   have g:PZ pe len hei cl all be=false:=qS (fun h=>gpe h.1)
   go_wp2;go_meet;exact⟨by rw[g],rfl⟩
 case rest =>
  obtain⟨rfl,t⟩:=hcut;have t:=t.symm;subst t;obtain rfl:PZ pe len hei cl all be=u:=by rw[L.out];exact QV (k:=9) (by unfold zR;omega)
  generalize PZ pe len hei cl all be=u at *;have a:=m;clear m C;go_upto_region 17 with(first|(go_at_call 19;refine sC (zx _ _ _ _) ?_)|(go_at_call 43;refine sC (zS _ _) ?_)|(go_at_call 44;refine sC (zY _ _) ?_))
  go_cut [8] (fun c y=>c=.bool v/\y=W)
  case first =>
   by_cases u0:unt=0
   ·subst u0
    go_wp2;go_meet;exact⟨by rw[H.out,decide_eq_true (.inl rfl)],rfl⟩
   ·have M:(unt == 0)=false:=by simpa using u0
    have D:v=false:=by rw[H.out];exact decide_eq_false (fun h=>by rcases h with h|h;exact u0 h;exact absurd h.1 (by decide))
    go_wp2;go_meet;exact⟨by rw[D],rfl⟩
  case rest =>
   obtain⟨rfl,d⟩:=hcut;have d:=d.symm;subst d;go_upto_region 18 with(first|(go_at_call 19;refine sC (zx _ _ _ _) ?_)|(go_at_call 43;refine sC (zS _ _) ?_)|(go_at_call 44;refine sC (zY _ _) ?_))
   go_cut [9] (fun c y=>c=.bool x/\y=W)
   case first =>
    by_cases u0:now=0
    ·subst u0
     go_wp2;go_meet;exact⟨by rw[I.out,decide_eq_true (.inl rfl)],rfl⟩
    ·have M:(now == 0)=false:=by simpa using u0
     have D:x=false:=by rw[I.out];exact decide_eq_false (fun h=>by rcases h with h|h;exact u0 h;exact absurd h.1 (by decide))
     go_wp2;go_meet;exact⟨by rw[D],rfl⟩
   case rest =>
    obtain⟨rfl,f⟩:=hcut;have f:=f.symm;subst f;clear Q P el T U V X Y Z y6 y7 y8 y9 F G
    cases B with
    | false =>
     go_wp2;go_ret;exact⟨by rw[l.out];simp,a⟩
    | true =>
     cases A with
     | false =>
      go_wp2;go_ret;exact⟨by rw[l.out];simp,a⟩
     | true =>
      cases z with
      | false =>
       go_wp2;go_ret;exact⟨by rw[l.out];simp,a⟩
      | true =>
       cases u with
       | false =>
        go_wp2;go_ret;exact⟨by rw[l.out];simp,a⟩
       | true =>
        cases v with
        | false =>
         go_wp2;go_ret;exact⟨by rw[l.out];simp,a⟩
        | true =>
         cases x with
         | false =>
          go_wp2;go_ret;exact⟨by rw[l.out];simp,a⟩
         | true =>
          go_wp2;go_ret;exact⟨by rw[l.out];rfl,a⟩
theorem zhf (kind:Int)(own:ByteArray)(name:Int)(a:Option Addr)(lgn b:Nat)(lg:Nat->Int)(pe len hei cl:Int)(all:Bool)(be unt now:Int)(w:World)(c:¬ In kind 1 9) :
  Calls Tryz.prog 18 #[.agg #[int i64 kind,.string own,int i64 name,.slice a lgn b,int i64 pe,int i64 len,int i64 hei,int i64 cl,.bool all,int i64 be,int i64 unt,int i64 now]] w fun e w'=>e=.returned (.bool (decide (Qz ⟨kind,own,name,lgn,lg,pe,len,hei,cl,all,be,unt,now⟩)))/\Below w.heap.size w w':=by
 rw[decide_eq_false (show ¬ Qz ⟨kind,own,name,lgn,lg,pe,len,hei,cl,all,be,unt,now⟩ from fun h=>c h.1)]
 have x9:decide (In kind 1 9)=false:=decide_eq_false c;clear c;go_enter Tryz.func18,Tryz.ntmps18;go_wp2_with (first|(go_at_call 19;refine sC (zx _ _ _ _) ?_))
 go_ret;exact⟨rfl,zr bZ _⟩
theorem zeq (cs:List Value)(x:OpD)(w:World)(c:x.own.size<=1000000000000000)(h:OpD.Is w cs x) :
  Calls Tryz.prog 18 #[.agg cs.toArray] w fun e w'=>e=.returned (.bool (decide (Qz x)))/\Below w.heap.size w w':=by
 obtain⟨a,b,rfl,_,_⟩:=h;obtain⟨kind,own,name,lgn,lg,pe,len,hei,cl,all,be,unt,now⟩:=x
 by_cases k9:In kind 1 9
 ·have d:kind=1∨kind=2∨kind=3∨kind=4∨kind=5∨kind=6∨kind=7∨kind=8∨kind=9:=by unfold In at k9;omega
  rcases d with rfl|rfl|rfl|rfl|rfl|rfl|rfl|rfl|rfl
  ·exact specOp_1 own name a lgn b lg pe len hei cl all be unt now w c
  ·exact specOp_2 own name a lgn b lg pe len hei cl all be unt now w c
  ·exact specOp_3 own name a lgn b lg pe len hei cl all be unt now w c
  ·exact specOp_4 own name a lgn b lg pe len hei cl all be unt now w c
  ·exact specOp_5 own name a lgn b lg pe len hei cl all be unt now w c
  ·exact specOp_6 own name a lgn b lg pe len hei cl all be unt now w c
  ·exact specOp_7 own name a lgn b lg pe len hei cl all be unt now w c
  ·exact specOp_8 own name a lgn b lg pe len hei cl all be unt now w c
  ·exact specOp_9 own name a lgn b lg pe len hei cl all be unt now w c
 ·exact zhf kind own name a lgn b lg pe len hei cl all be unt now w k9
def Qu (N:Nat)(x:Off)(y:OpD):Prop:=(zR y.kind/\¬ zba N x.sa y.lgn y.lg)∨(y.kind=9/\qo x.sa (y.lg 0) N=N)
def Z2 (N R m:Nat)(x:Off)(y:OpD)(code:Int):Prop :=
 (¬ Qz y->code=1)/\(Qz y->Qu N x y->code=2)/\(Qz y->¬ Qu N x y->In y.kind 4 8->zcr R m x y code)/\(Qz y->¬ Qu N x y->¬ In y.kind 4 8->code=0)
theorem zhg (b t s k:Option Addr)(N M R d A z j m:Nat)(x:Off)(y:OpD)(w:World)(hN:N<=1048576)(hR:R<=1048576)(hl:y.lgn<=1048576)(ho:y.own.size<=1000000000000000)(hz:SailsAt w b N x.sa)(a3:ZU w s R x.bk)(a1:OpD.Is w [int i64 y.kind,.string y.own,int i64 y.name,.slice k y.lgn j,int i64 y.pe,int i64 y.len,int i64 y.hei,int i64 y.cl,.bool y.all,int i64 y.be,int i64 y.unt,int i64 y.now] y)(hm:Qz y->In y.kind 4 8->y.name=(m:Int)+1/\m<=1048576) :
  Calls Tryz.prog 120 #[.agg #[.slice b N d,.slice t M A,.slice s R z],.agg #[int i64 y.kind,.string y.own,int i64 y.name,.slice k y.lgn j,int i64 y.pe,int i64 y.len,int i64 y.hei,int i64 y.cl,.bool y.all,int i64 y.be,int i64 y.unt,int i64 y.now]] w fun e w'=>(∃ code:Int,e=.returned (int i64 code)/\Z2 N R m x y code)/\Below w.heap.size w w':=by
 have HM:=hI hm;clear hm;have X:=hI a3;have HZ:=hI hz;have a9:=hI a1;have a2:Hid (IntsAt w k y.lgn y.lg):=by
  obtain⟨a,c,e,h,_⟩:=a1;simp only[List.cons.injEq,Value.slice.injEq] at e;obtain⟨_,_,_,⟨rfl,_,_⟩,_⟩:=e;exact h
 clear a3 hz a1;have Q:Below w.heap.size w ((w.alloc (.cells #[.slice b N d,.slice t M A,.slice s R z] 66)).alloc (.cells #[int i64 y.kind,.string y.own,int i64 y.name,.slice k y.lgn j,int i64 y.pe,int i64 y.len,int i64 y.hei,int i64 y.cl,.bool y.all,int i64 y.be,int i64 y.unt,int i64 y.now] 27)):=zr (zr bZ _) _;have bF:((w.alloc (.cells #[.slice b N d,.slice t M A,.slice s R z] 66)).alloc (.cells #[int i64 y.kind,.string y.own,int i64 y.name,.slice k y.lgn j,int i64 y.pe,int i64 y.len,int i64 y.hei,int i64 y.cl,.bool y.all,int i64 y.be,int i64 y.unt,int i64 y.now] 27)).heap[w.heap.size]?=some (.cells #[.slice b N d,.slice t M A,.slice s R z] 66 (0,0)):=ze (heap_alloc_new w _) _;have bO:((w.alloc (.cells #[.slice b N d,.slice t M A,.slice s R z] 66)).alloc (.cells #[int i64 y.kind,.string y.own,int i64 y.name,.slice k y.lgn j,int i64 y.pe,int i64 y.len,int i64 y.hei,int i64 y.cl,.bool y.all,int i64 y.be,int i64 y.unt,int i64 y.now] 27)).heap[w.heap.size+1]?=some (.cells #[int i64 y.kind,.string y.own,int i64 y.name,.slice k y.lgn j,int i64 y.pe,int i64 y.len,int i64 y.hei,int i64 y.cl,.bool y.all,int i64 y.be,int i64 y.unt,int i64 y.now] 27 (0,0)):=by simpa using heap_alloc_new (w.alloc (.cells #[.slice b N d,.slice t M A,.slice s R z] 66)) _
 go_enter Tryz.func120,Tryz.ntmps120;go_upto_region 1 with fail;generalize (w.alloc (.cells #[.slice b N d,.slice t M A,.slice s R z] 66)).alloc (.cells #[int i64 y.kind,.string y.own,int i64 y.name,.slice k y.lgn j,int i64 y.pe,int i64 y.len,int i64 y.hei,int i64 y.cl,.bool y.all,int i64 y.be,int i64 y.unt,int i64 y.now] 27)=V at Q bF bO ⊢;obtain⟨o0,o1,o2,o3,o4,o5,o6,o7,o8,o9,b5,b6⟩:=ce12 bO;obtain⟨q,hq⟩:∃ q:Bool,q=decide (Qz y):=⟨_,rfl⟩;have cg:=zeq [int i64 y.kind,.string y.own,int i64 y.name,.slice k y.lgn j,int i64 y.pe,int i64 y.len,int i64 y.hei,int i64 y.cl,.bool y.all,int i64 y.be,int i64 y.unt,int i64 y.now] y V ho (a9.out.below Q);rw[← hq] at cg;have HQ:Hid (q=true↔Qz y):=by rw[hq];exact decide_eq_true_iff
 clear hq;go_wp2_with fail;refine cg.mono ?_;clear cg;rintro e H ⟨rfl,S⟩;have G:=zc bO S;have I:=zc bF S;have B:=hI (zj Q S);clear o0 o1 o2 o3 o4 o5 o6 o7 o8 o9 b5 b6 bO bF Q S
 cases q with
 | false =>
  have U:¬ Qz y:=fun h=>by have:=HQ.out.2 h;cases this
  have C:Hid (Z2 N R m x y 1):=⟨fun _=>rfl,fun h=>absurd h U,fun h=>absurd h U,fun h=>absurd h U⟩
  clear U;go_wp2;go_ret;exact⟨⟨1,rfl,C.out⟩,B.out⟩
 | true =>
  have p:Hid (Qz y):=by first|exact HQ.out.1 rfl|exact HQ.out.1 trivial
  have o0:=za G 0 _ rfl;have o3:=za G 3 _ rfl;have f0:=za I 0 _ rfl
  by_cases hL:zR y.kind
  ·have dL:decide (zR y.kind)=true:=decide_eq_true hL
   have k9:(y.kind == 9)=false:=by rw[beq_eq_false_iff_ne];unfold zR at hL;omega
   go_wp2_with (go_at_call 44;refine sC (zY _ _) ?_);refine(zdh b k N y.lgn d j x.sa y.lg _ hN hl (HZ.out.below B.out) (a2.out.below B.out)).mono ?_;rintro e w2 ⟨⟨r,rfl,hr⟩,T⟩;have i:=zc G T;have l:=zc I T;have o:=hI (zj B.out T);have Y:=hI hr;clear o0 o3 f0 G I B T hr dL
   cases r with
   | false =>
    have C:Hid (Z2 N R m x y 2):=by
     have P:Qu N x y:=.inl ⟨hL,fun h=>by have:=Y.out.2 h;cases this⟩
     exact⟨fun h=>absurd p.out h,fun _ _=>rfl,fun _ h=>absurd P h,fun _ h=>absurd P h⟩
    clear hL;go_wp2;go_ret;exact⟨⟨2,rfl,C.out⟩,o.out⟩
   | true =>
    have D:Hid (¬ Qu N x y):=by
     rintro(⟨_,h⟩|⟨h,_⟩)
     ·exact h (by first|exact Y.out.1 rfl|exact Y.out.1 trivial)
     ·unfold zR at hL;omega
    clear hL;have u0:∀ h:qe w2,h.val.cell? ⟨w.heap.size+1,0,none⟩=some (int i64 y.kind):=fun h=>za (zc i h.bel) 0 _ rfl
    have u3:∀ h:qe w2,h.val.cell? ⟨w.heap.size+1,3,none⟩=some (.slice k y.lgn j):=fun h=>za (zc i h.bel) 3 _ rfl
    have v0:∀ h:qe w2,h.val.cell? ⟨w.heap.size,0,none⟩=some (.slice b N d):=fun h=>za (zc l h.bel) 0 _ rfl
    go_upto_region 5 with fail;refine zp (by kernel_rfl) (by kernel_rfl) ?_
    repeat(first|go_big_quiet_skip|(go_big_quiet_want;go_big_quiet_op;first|go_big_quiet_on))
    refine wpQuiet_nil ?_;rintro _ ⟨g,rfl⟩;have n:=zc i g.bel;have u:=zc l g.bel;have f:=hI (zj o.out g.bel);generalize g.val=w3 at n u f ⊢;clear u0 u3 v0 i l o
    by_cases hn:In y.kind 4 8
    ·have dN:decide (In y.kind 4 8)=true:=decide_eq_true hn
     obtain⟨p0,p1,p2,p3,p4,p5,p6,p7,p8,p9,a6,a7⟩:=ce12 n;obtain⟨s0,s1,s2⟩:=ce3 u;have E:=hI (HM.out p.out hn);go_wp2_with (go_at_call 43;refine sC (zS _ _) ?_);refine(QZ b t s k N M R d A z j m x y w3 hR E.out.2 E.out.1 (X.out.below f.out)).mono ?_;rintro e w4 ⟨⟨code,rfl,F⟩,K⟩;have C:Hid (Z2 N R m x y code):=⟨fun h=>absurd p.out h,fun _ h=>absurd h D.out,fun _ _ _=>F,fun _ _ h=>absurd hn h⟩
     have J:=hI (zj f.out K);clear F;go_wp2;go_ret;exact⟨⟨code,rfl,C.out⟩,J.out⟩
    ·have dN:decide (In y.kind 4 8)=false:=decide_eq_false hn
     have p0:=za n 0 _ rfl;have C:Hid (Z2 N R m x y 0):=⟨fun h=>absurd p.out h,fun _ h=>absurd h D.out,fun _ _ h=>absurd h hn,fun _ _ _=>rfl⟩
     go_wp2_with (go_at_call 43;refine sC (zS _ _) ?_);go_ret;exact⟨⟨0,rfl,C.out⟩,f.out⟩
  ·have dL:decide (zR y.kind)=false:=decide_eq_false hL
   have i:=G;have l:=I;have o:=hI B
   by_cases h9:y.kind=9
   ·have a5:y.lgn=1:=by
     have h:=p.out.2.2.2.1;unfold qj at h;rw[if_neg hL,if_pos h9] at h;exact h
    have k9:(y.kind == 9)=true:=by rw[beq_iff_eq];exact h9
    have H9:=hI h9;obtain⟨gb,go,b0,a0⟩:=a2.out 0 (by omega)
    subst b0;have i0:(0:Int)<(y.lgn:Int):=by omega
    have b8:0<y.lgn:=by omega
    have z0:∀ h:qe H,h.val.cell? ⟨gb,go,none⟩=some (int i64 (y.lg 0)):=fun h=>((zj B.out h.bel).cell (World.block_lt_of_cell? w _ a0)).trans a0
    clear G I B a0;have a8:=hI hL;have b7:=hI a5;clear hL h9 a5;obtain⟨fi,Z⟩:∃ fi,fi=qo x.sa (y.lg 0) N:=⟨_,rfl⟩;have O:=hI Z
    by_cases hfx:fi<N
    ·have D:Hid (¬ Qu N x y):=by
      rintro(⟨h,_⟩|⟨_,h⟩)
      ·exact a8.out h
      ·have e:=O.out;omega
     have W:Hid (∀ g:qe H,Calls Tryz.prog 110 #[.slice b N d,int i64 (y.lg 0)] g.val fun e L=>e=.returned (int i64 (fi:Int))/\∃ g':qe H,L=g'.val):=fun g=>zi (v:=int i64 (fi:Int)) ((ZP b N d x.sa (y.lg 0) g.val hN (HZ.out.below (zj o.out g.bel))).mono fun e L ⟨h,P⟩=>by
      rw[← O.out] at h
      rcases h with⟨_,h⟩|⟨h,_⟩
      ·exact⟨h,P⟩
      ·omega)
     have d9:decide ((fi:Int)<0)=false:=decide_eq_false (by omega)
     clear Z;go_upto_region 5 with(go_at_call 44;refine sC (zY _ _) ?_);clear o0 o3 f0 dL;have u0:∀ h:qe H,h.val.cell? ⟨w.heap.size+1,0,none⟩=some (int i64 y.kind):=fun h=>za (zc i h.bel) 0 _ rfl
     have u3:∀ h:qe H,h.val.cell? ⟨w.heap.size+1,3,none⟩=some (.slice (some ⟨gb,go,none⟩) y.lgn j):=fun h=>za (zc i h.bel) 3 _ rfl
     have v0:∀ h:qe H,h.val.cell? ⟨w.heap.size,0,none⟩=some (.slice b N d):=fun h=>za (zc l h.bel) 0 _ rfl
     refine zp (by kernel_rfl) (by kernel_rfl) ?_
     repeat(first|go_big_quiet_skip|(go_big_quiet_want;go_big_quiet_op;first|go_big_quiet_on|(apply Exists.intro;refine⟨fun g=>?_,?_⟩;(focus(go_at_call 110;exact W.out g));go_big_quiet_on)))
     refine wpQuiet_nil ?_;rintro _ ⟨g,rfl⟩;have n:=zc i g.bel;have u:=zc l g.bel;have f:=hI (zj o.out g.bel);generalize g.val=w3 at n u f ⊢;clear u0 u3 v0 z0 i l o
     by_cases hn:In y.kind 4 8
     ·have dN:decide (In y.kind 4 8)=true:=decide_eq_true hn
      obtain⟨p0,p1,p2,p3,p4,p5,p6,p7,p8,p9,a6,a7⟩:=ce12 n;obtain⟨s0,s1,s2⟩:=ce3 u;have E:=hI (HM.out p.out hn);go_wp2_with (go_at_call 43;refine sC (zS _ _) ?_);refine(QZ b t s (some ⟨gb,go,none⟩) N M R d A z j m x y w3 hR E.out.2 E.out.1 (X.out.below f.out)).mono ?_;rintro e w4 ⟨⟨code,rfl,F⟩,K⟩;have C:Hid (Z2 N R m x y code):=⟨fun h=>absurd p.out h,fun _ h=>absurd h D.out,fun _ _ _=>F,fun _ _ h=>absurd hn h⟩
      have J:=hI (zj f.out K);clear F;go_wp2;go_ret;exact⟨⟨code,rfl,C.out⟩,J.out⟩
     ·have dN:decide (In y.kind 4 8)=false:=decide_eq_false hn
      have p0:=za n 0 _ rfl;have C:Hid (Z2 N R m x y 0):=⟨fun h=>absurd p.out h,fun _ h=>absurd h D.out,fun _ _ h=>absurd h hn,fun _ _ _=>rfl⟩
      go_wp2_with (go_at_call 43;refine sC (zS _ _) ?_);go_ret;exact⟨⟨0,rfl,C.out⟩,f.out⟩
    ·have C:Hid (Z2 N R m x y 2):=by
      have P:Qu N x y:=.inr ⟨H9.out,by
       have e:=O.out;have h2:=zbK x.sa (y.lg 0) N
       omega⟩
      exact⟨fun h=>absurd p.out h,fun _ _=>rfl,fun _ h=>absurd P h,fun _ h=>absurd P h⟩
     have W:Hid (∀ g:qe H,Calls Tryz.prog 110 #[.slice b N d,int i64 (y.lg 0)] g.val fun e L=>e=.returned (int i64 (-1))/\∃ g':qe H,L=g'.val):=fun g=>zi (v:=int i64 (-1)) ((ZP b N d x.sa (y.lg 0) g.val hN (HZ.out.below (zj o.out g.bel))).mono fun e L ⟨h,P⟩=>by
      rw[← O.out] at h
      rcases h with⟨h,_⟩|⟨_,h⟩
      ·omega
      ·exact⟨h,P⟩)
     clear Z;go_upto_region 5 with(go_at_call 44;refine sC (zY _ _) ?_);clear o0 o3 f0 dL;have u0:∀ h:qe H,h.val.cell? ⟨w.heap.size+1,0,none⟩=some (int i64 y.kind):=fun h=>za (zc i h.bel) 0 _ rfl
     have u3:∀ h:qe H,h.val.cell? ⟨w.heap.size+1,3,none⟩=some (.slice (some ⟨gb,go,none⟩) y.lgn j):=fun h=>za (zc i h.bel) 3 _ rfl
     have v0:∀ h:qe H,h.val.cell? ⟨w.heap.size,0,none⟩=some (.slice b N d):=fun h=>za (zc l h.bel) 0 _ rfl
     refine zp (by kernel_rfl) (by kernel_rfl) ?_
     repeat(first|go_big_quiet_skip|(go_big_quiet_want;go_big_quiet_op;first|go_big_quiet_on|(apply Exists.intro;refine⟨fun g=>?_,?_⟩;(focus(go_at_call 110;exact W.out g));go_big_quiet_on)))
     refine wpQuiet_nil ?_;rintro _ ⟨g,rfl⟩;have n:=zc i g.bel;have u:=zc l g.bel;have f:=hI (zj o.out g.bel);generalize g.val=w3 at n u f ⊢;clear u0 u3 v0 z0 i l o;go_wp2;go_ret;exact⟨⟨2,rfl,C.out⟩,f.out⟩
   ·have k9:(y.kind == 9)=false:=by rw[beq_eq_false_iff_ne];exact h9
    have D:Hid (¬ Qu N x y):=by
     rintro(⟨h,_⟩|⟨h,_⟩)
     ·exact hL h
     ·exact h9 h
    clear hL h9 G I B;go_upto_region 5 with(go_at_call 44;refine sC (zY _ _) ?_);clear o0 o3 f0 dL;have u0:∀ h:qe H,h.val.cell? ⟨w.heap.size+1,0,none⟩=some (int i64 y.kind):=fun h=>za (zc i h.bel) 0 _ rfl
    have u3:∀ h:qe H,h.val.cell? ⟨w.heap.size+1,3,none⟩=some (.slice k y.lgn j):=fun h=>za (zc i h.bel) 3 _ rfl
    have v0:∀ h:qe H,h.val.cell? ⟨w.heap.size,0,none⟩=some (.slice b N d):=fun h=>za (zc l h.bel) 0 _ rfl
    refine zp (by kernel_rfl) (by kernel_rfl) ?_
    repeat(first|go_big_quiet_skip|(go_big_quiet_want;go_big_quiet_op;first|go_big_quiet_on))
    refine wpQuiet_nil ?_;rintro _ ⟨g,rfl⟩;have n:=zc i g.bel;have u:=zc l g.bel;have f:=hI (zj o.out g.bel);generalize g.val=w3 at n u f ⊢;clear u0 u3 v0 i l o
    by_cases hn:In y.kind 4 8
    ·have dN:decide (In y.kind 4 8)=true:=decide_eq_true hn
     obtain⟨p0,p1,p2,p3,p4,p5,p6,p7,p8,p9,a6,a7⟩:=ce12 n;obtain⟨s0,s1,s2⟩:=ce3 u;have E:=hI (HM.out p.out hn);go_wp2_with (go_at_call 43;refine sC (zS _ _) ?_);refine(QZ b t s k N M R d A z j m x y w3 hR E.out.2 E.out.1 (X.out.below f.out)).mono ?_;rintro e w4 ⟨⟨code,rfl,F⟩,K⟩;have C:Hid (Z2 N R m x y code):=⟨fun h=>absurd p.out h,fun _ h=>absurd h D.out,fun _ _ _=>F,fun _ _ h=>absurd hn h⟩
     have J:=hI (zj f.out K);clear F;go_wp2;go_ret;exact⟨⟨code,rfl,C.out⟩,J.out⟩
    ·have dN:decide (In y.kind 4 8)=false:=decide_eq_false hn
     have p0:=za n 0 _ rfl;have C:Hid (Z2 N R m x y 0):=⟨fun h=>absurd p.out h,fun _ h=>absurd h D.out,fun _ _ h=>absurd h hn,fun _ _ _=>rfl⟩
     go_wp2_with (go_at_call 43;refine sC (zS _ _) ?_);go_ret;exact⟨⟨0,rfl,C.out⟩,f.out⟩
end Go.Proofs.YtfallpinmhbemaaGreatDoor
