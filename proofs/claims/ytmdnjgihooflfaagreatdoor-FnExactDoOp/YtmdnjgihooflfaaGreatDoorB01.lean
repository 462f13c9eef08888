import Derived.Test.YtmdnjgihooflfaaGreatDoorB00
namespace Go.Proofs.YtmdnjgihooflfaaGreatDoor
open Go.RowKit
open Go.Value (int)
open Go.IntKind (i64)
open _root_.Go.Proofs.Tryz
set_option maxHeartbeats 64000000
set_option maxRecDepth 1000000
theorem SA (k:Int)(own:ByteArray)(name:Int)(r:Option Addr)(lgn s:Nat)(lg:Nat->Int)(pe len hei cl:Int)(all:Bool)(be unt now:Int)(w:World)(d:own.size<=1000000000000000)(S:k=1∨k=2∨k=3∨k=4∨k=5∨k=6∨k=7∨k=8∨k=9) :
  Calls prog 159 #[.agg #[k,own,name,(r,lgn,s),pe,len,hei,cl,all,be,unt,now]] w λe w'=>e=.returned (.bool (decide (QE ⟨k,own,name,lgn,lg,pe,len,hei,cl,all,be,unt,now⟩)))/\Below w w w':=by
 obtain⟨R,L⟩:=nM (decide (QE ⟨k,own,name,lgn,lg,pe,len,hei,cl,all,be,unt,now⟩));rw[← L];obtain⟨bo,m⟩:=nM (decide (AH k own));obtain⟨F,l⟩:=nM (decide (Bv k name));obtain⟨A,i⟩:=nM (decide (Zj k lgn));obtain⟨bp,u⟩:=nM (decide (Zr k ⟨pe,len,hei,cl,all,be⟩));obtain⟨B,v⟩:=nM (decide (AT k unt));obtain⟨C,x⟩:=nM (decide (DZ k now));have p:Hid (R=(bo && F && A && bp && B && C)):=by
  show R=_
  rw[L,m,l,i,u,v,x];exact RY (by unfold In;omega)
 have d9:decide (In k 1 9)=true:=Jd (by unfold In;omega)
 have M:=hI u;have I:=hI v;have J:=hI x;have g:Below _ w (w.alloc (.cells #[k,own,name,(r,lgn,s),pe,len,hei,cl,all,be,unt,now] 47)):=zd bZ _;have y:=Jb w (.cells #[k,own,name,(r,lgn,s),pe,len,hei,cl,all,be,unt,now] 47);have HK:=hI S;have dn:(decide (In 1 4 8)=false/\decide (In 2 4 8)=false/\decide (In 3 4 8)=false/\decide (In 9 4 8)=false)/\decide (In 4 4 8)=true/\decide (In 5 4 8)=true/\decide (In 6 4 8)=true/\decide (In 7 4 8)=true/\decide (In 8 4 8)=true:=dC;have dl:(decide (zM 1)=true/\decide (zM 2)=true/\decide (zM 3)=true/\decide (zM 5)=true)/\decide (zM 4)=false/\decide (zM 6)=false/\decide (zM 7)=false/\decide (zM 8)=false/\decide (zM 9)=false:=dC;obtain⟨⟨n1,n2,n3,n9⟩,n4,n5,n6,n7,n8⟩:=dn;obtain⟨⟨l1,l2,l3,l5⟩,l4,l6,l7,l8,l9⟩:=dl;clear L u v x
 rcases S with rfl|rfl|rfl|rfl|rfl|rfl|rfl|rfl|rfl
 all_goals
  as_aux_lemma =>
  first|(refine(λ(Q:own.toList.isEmpty=bo)=>?_) ?_;rotate_left;(focus(rw[m];refine(Iv own ?_).symm;omega)))|(refine(λ(Q:decide (Z7 own)=bo)=>?_) ?_;rotate_left;(focus(rw[m];refine decide_eq_decide.2 ?_;unfold AH;simp <;> fail)))
  first|(refine(λ(P:(name == 0)=F)=>?_) ?_;rotate_left;(focus(rw[l];refine(MX _ ?_).symm;unfold In;omega)))|(refine(λ(P:decide (In name 1 30)=F)=>?_) ?_;rotate_left;(focus(rw[l];refine decide_eq_decide.2 ?_;unfold Bv In;simp <;> fail)))
  first|(refine(λ(K:decide (In (lgn:Int) 1 3)=A)=>?_) ?_;rotate_left;(focus(rw[i];refine decide_eq_decide.2 ?_;unfold Zj zM In;simp;omega)))|(refine(λ(K:((lgn:Int) == 0)=A)=>?_) ?_;rotate_left;(focus(rw[i,PC];refine decide_eq_decide.2 ?_;unfold Zj zM;simp <;> fail)))|(refine(λ(K:((lgn:Int) == 1)=A)=>?_) ?_;rotate_left;(focus(rw[i,kf];refine decide_eq_decide.2 ?_;unfold Zj zM;simp <;> fail)))
  clear m l i;go_enter func159,ntmps159;go_upto_region 11 with(first|(go_at_call 148;refine bM (zt _ _ _ _) λw' a=>?_;have a:=a.symm;subst a)|(go_at_call 162;refine bM (Qi _ _) λw' a=>?_;have a:=a.symm;subst a)|(go_at_call 160;refine bM (Qe _ _) λw' a=>?_;have a:=a.symm;subst a)|(go_at_call 156;refine bM (Zz _ _ d) λw' a=>?_;have a:=a.symm;subst a))
  generalize w.alloc _=W at g y ⊢;obtain⟨G,U,X,H,Y,Z,y6,y7,y8,y9,n,o⟩:=DQ y;go_cut [7] (λc E=>c=.bool (PZ pe len hei cl all be)/\E=W)
  case first =>
   by_cases gpe:pe=0
   ·subst gpe
    by_cases glen:len=0
    ·subst glen
     by_cases ghei:hei=0
     ·subst ghei
      by_cases gcl:cl=0
      ·subst gcl
       cases all with
       |true =>
        have j:PZ 0 0 0 0 true be=false:=MY (λh=>by cases h.2.2.2.2.1)
        go_wp2;go_meet;exact⟨by rw[j],rfl⟩
       |false =>
        by_cases gbe:be=0
        ·subst gbe
         go_wp2;go_meet;exact⟨rfl,rfl⟩
        ·have a0:(be == 0)=false:=by simpa using gbe
         have j:PZ 0 0 0 0 false be=false:=MY (λh=>gbe h.2.2.2.2.2)
         go_wp2;go_meet;exact⟨by rw[j],rfl⟩
      ·have a1:(cl == 0)=false:=by simpa using gcl
       have j:PZ 0 0 0 cl all be=false:=MY (λh=>gcl h.2.2.2.1)
       go_wp2;go_meet;exact⟨by rw[j],rfl⟩
     ·have N:(hei == 0)=false:=by simpa using ghei
      have j:PZ 0 0 hei cl all be=false:=MY (λh=>ghei h.2.2.1)
      go_wp2;go_meet;exact⟨by rw[j],rfl⟩
    ·have O:(len == 0)=false:=by simpa using glen
     have j:PZ 0 len hei cl all be=false:=MY (λh=>glen h.2.1)
     go_wp2;go_meet;exact⟨by rw[j],rfl⟩
   ·have a2:(pe == 0)=false:=by simpa using gpe
    have j:PZ pe len hei cl all be=false:=MY (λh=>gpe h.1)
    go_wp2;go_meet;exact⟨by rw[j],rfl⟩
  case rest =>
   obtain⟨rfl,b⟩:=hcut;have b:=b.symm;subst b
   first
   |have hl:zM _:=Js (by first | exact l1 | exact l2 | exact l3 | exact l5)
    generalize PZ pe len hei cl all be=pz at *;go_wp2_with (first|(go_at_call 148;refine bM (zt _ _ _ _) λw' a=>?_;have a:=a.symm;subst a)|(go_at_call 162;refine bM (Qi _ _) λw' a=>?_;have a:=a.symm;subst a)|(go_at_call 160;refine bM (Qe _ _) λw' a=>?_;have a:=a.symm;subst a)|(go_at_call 156;refine bM (Zz _ _ d) λw' a=>?_;have a:=a.symm;subst a))
    refine(FP pe len hei cl all be _).mono ?_;rintro e V ⟨⟨q,rfl,T⟩,t⟩;obtain rfl:bp=q:=by rw[M.out];exact KX (by unfold zM;omega) T
    have z:=za y t;have f:=zb g t;clear t T;clear g y G U X H Y Z y6 y7 y8 y9 n o
   |obtain rfl:PZ pe len hei cl all be=bp:=by rw[M.out];exact KY (by unfold zM;omega)
    generalize PZ pe len hei cl all be=bp at *;obtain⟨V,rfl⟩:=nM W;have z:=y;have f:=g;clear g y G U X H Y Z y6 y7 y8 y9 n o
   have G:=bC z 0;have H:=bC z 3;have n:=bC z 10;have o:=bC z 11;go_upto_region 17 with(first|(go_at_call 148;refine bM (zt _ _ _ _) λw' a=>?_;have a:=a.symm;subst a)|(go_at_call 162;refine bM (Qi _ _) λw' a=>?_;have a:=a.symm;subst a)|(go_at_call 160;refine bM (Qe _ _) λw' a=>?_;have a:=a.symm;subst a)|(go_at_call 156;refine bM (Zz _ _ d) λw' a=>?_;have a:=a.symm;subst a))
   go_cut [8] (λc E=>c=.bool B/\E=V)
   case first =>
    by_cases u0:unt=0
    ·subst u0
     go_wp2;go_meet;exact⟨by rw[I.out,Jd (.inl rfl)],rfl⟩
    ·have e0:(unt == 0)=false:=by simpa using u0
     first
     |have D:B=false:=by rw[I.out];exact Jc (λh=>by rcases h with h | h;exact u0 h;exact absurd h.1 dC)
      go_wp2;go_meet;exact⟨by rw[D],rfl⟩
     |have D:decide (In unt 0 10000)=B:=by rw[I.out];exact decide_eq_decide.2 ⟨λh=>.inr ⟨by decide,h⟩,λh=>by rcases h with h | h;exact absurd h u0;exact h.2⟩
      go_wp2_with (first|(go_at_call 148;refine bM (zt _ _ _ _) λw' a=>?_;have a:=a.symm;subst a)|(go_at_call 162;refine bM (Qi _ _) λw' a=>?_;have a:=a.symm;subst a)|(go_at_call 160;refine bM (Qe _ _) λw' a=>?_;have a:=a.symm;subst a)|(go_at_call 156;refine bM (Zz _ _ d) λw' a=>?_;have a:=a.symm;subst a))
      go_meet;exact⟨rfl,rfl⟩
   case rest =>
    obtain⟨rfl,b⟩:=hcut;have b:=b.symm;subst b;go_upto_region 18 with(first|(go_at_call 148;refine bM (zt _ _ _ _) λw' a=>?_;have a:=a.symm;subst a)|(go_at_call 162;refine bM (Qi _ _) λw' a=>?_;have a:=a.symm;subst a)|(go_at_call 160;refine bM (Qe _ _) λw' a=>?_;have a:=a.symm;subst a)|(go_at_call 156;refine bM (Zz _ _ d) λw' a=>?_;have a:=a.symm;subst a))
    go_cut [9] (λc E=>c=.bool C/\E=V)
    case first =>
     by_cases u0:now=0
     ·subst u0
      go_wp2;go_meet;exact⟨by rw[J.out,Jd (.inl rfl)],rfl⟩
     ·have e0:(now == 0)=false:=by simpa using u0
      first
      |have D:C=false:=by rw[J.out];exact Jc (λh=>by rcases h with h | h;exact u0 h;exact absurd h.1 dC)
       go_wp2;go_meet;exact⟨by rw[D],rfl⟩
      |have D:decide (In now 0 10000)=C:=by rw[J.out];exact decide_eq_decide.2 ⟨λh=>.inr ⟨by decide,h⟩,λh=>by rcases h with h | h;exact absurd h u0;exact h.2⟩
       go_wp2_with (first|(go_at_call 148;refine bM (zt _ _ _ _) λw' a=>?_;have a:=a.symm;subst a)|(go_at_call 162;refine bM (Qi _ _) λw' a=>?_;have a:=a.symm;subst a)|(go_at_call 160;refine bM (Qe _ _) λw' a=>?_;have a:=a.symm;subst a)|(go_at_call 156;refine bM (Zz _ _ d) λw' a=>?_;have a:=a.symm;subst a))
       go_meet;exact⟨rfl,rfl⟩
    case rest =>
     obtain⟨rfl,b⟩:=hcut;have b:=b.symm;subst b;clear Q P K G H n o
     cases bo
     ·go_wp2
      go_ret;exact⟨by rw[p.out];simp,f⟩
     cases F
     ·go_wp2
      go_ret;exact⟨by rw[p.out];simp,f⟩
     cases A
     ·go_wp2
      go_ret;exact⟨by rw[p.out];simp,f⟩
     cases bp
     ·go_wp2
      go_ret;exact⟨by rw[p.out];simp,f⟩
     cases B
     ·go_wp2
      go_ret;exact⟨by rw[p.out];simp,f⟩
     cases C
     ·go_wp2
      go_ret;exact⟨by rw[p.out];simp,f⟩
     go_wp2;go_ret;exact⟨by rw[p.out];rfl,f⟩
end Go.Proofs.YtmdnjgihooflfaaGreatDoor
