import Derived.Test.YtmdnjgihooflfaaGreatDoorB07
namespace Go.Proofs.YtmdnjgihooflfaaGreatDoor
open Go.RowKit
open Go.Value (int)
open Go.IntKind (i64)
open _root_.Go.Proofs.Tryz
set_option maxHeartbeats 64000000
set_option maxRecDepth 1000000
variable{n:Nat}{x:Int}
theorem Nk (S:Nat->qO)(i n:Nat)(a:i<=n)(h:∀ j,j<n->In (S j).z 1 20):Z0 S i<=Z0 S n:=by
 induction n with
 |zero=>rw[show i=0 by omega];exact Int.le_refl _
 |succ n ih =>
  by_cases e:i=n+1
  ·rw[e];exact Int.le_refl _
  ·have:=ih oM (λj hj=>h j oM)
   have b:=h n oM;unfold In at b;have h3:Z0 S (n+1)=_+_:=rfl
   omega
theorem EA {S:Nat->qO}{many:Int}{j:Nat}(h:j<n):Z2 S n x many j=S j:=by unfold Z2 Ak;rw[Jf h]
theorem ah (S:Nat->qO)(n:Nat)(x many:Int)(i:Nat)(h:i<=n):Z0 (Z2 S n x many) i=Z0 S i:=by
 induction i with
 |zero=>rfl
 |succ i ih =>
  have e:=ih oM
  show _+_=_+_
  rw[e,EA oM]
theorem Oi {most:Int}{S:Nat->qO}{many:Int}(h:An most (n+1) (Z2 S n x many)):An most n S:=by
 obtain⟨b,h1,h2,h3⟩:=h;refine⟨b,by omega,λi c=>?_,?_⟩
 ·have:=h2 i oM
  rw[EA c] at this;refine⟨this.1,λ⟨j,a,e⟩=>this.2.1 ⟨j,a,?_⟩,this.2.2⟩
  unfold ZZ at e ⊢;rw[EA oM];exact e
 ·have:=Nk _ n _ oM (λj a=>(h2 j a).2.2)
  rw[ah S n x _ n (Jr _)] at this
  omega
def gm (most:Int)(n:Nat)(S:Nat->qO)(e:Ending):Prop :=
 (An most n S/\e=.returned (.tuple #[int i64 (most - Z0 S n),.bool true]))∨(¬ An most n S/\e=.returned (.tuple #[(),.bool false]))
theorem Mn (most:Int)(bo:Option Addr)(n c:Nat)(S:Nat->qO)(w:World)(hn:n<=2097152)(hc:n<=c)(H:qC w bo n S) :
  Calls prog 238 #[most,(bo,n,c)] w λe w'=>gm most n S e/\Below w w w':=by
 have y:=hI H;clear H
 by_cases g0:In most 0 500
 ·have F:=Jd g0
  have r:=hI g0;clear g0
  by_cases h60:n<=60
  ·have E:decide (60<n)=false:=by simp;omega
   go_enter func238,ntmps238;go_wp2_with (first|(go_at_call 191;refine bM (zx _ _ _ _) λw' a=>?_;have a:=a.symm;subst a))
   go_loopw [6,7,8,20] (λv _ _ i wr=>∃ k,k<=n/\i=int i64 k/\v=int i64 (most - Z0 S k)/\(∀ j,j<k->In (S j).e 1 9999/\¬ Qh (ZZ S) j (S j).e/\In (S j).z 1 20)/\Z0 S k<=most/\Below w w wr) (λ_ _ _ i _=>n - (intOf i).toNat)
   case atStart=>exact⟨0,Jq _,rfl,by simp[Z0],λj x=>by omega,r.1,bZ⟩
   case round =>
    obtain⟨i,hi,rfl,rfl,o,p,d⟩:=hrel;have C:=hI o;have I:=hI p;clear o p F E
    by_cases hlt:i<n
    ·obtain⟨b,off,rfl,u,h1⟩:=y i hlt
     have G:=Ja w _ u;have J:=tR d u G;have c1:=tR d h1 G;have f:=Jb wr (.cells #[(S i).e,(S i).z] 234);have l:=zd d (.cells #[(S i).e,(S i).z] 234);clear u h1;go_upto_region 7 with fail;generalize hW:wr.alloc _=W at f l ⊢;clear hW;have L:=zD f;have z0:=gC f 0;have O:=gC f 1;have i1:=n0 i;have i2:(i:Int)<=(c:Int):=oM;clear J c1 f d
     by_cases g1:In (S i).e 1 9999
     ·have t:=Jd g1
      have A:=hI g1;clear g1
      by_cases g2:Qh (ZZ S) i (S i).e
      ·have K:=Jd ((QK _ _ _).2 g2)
       have B:=hI g2;clear g2;refine ze kR kR ?_
       repeat(go_big_quiet_step ((rename_i g;first|(go_at_call 102;refine gE (v:=.bool true) (Z5 _ _) (by rw[t]))|(go_at_call 245;refine zr (v:=int i64 (Zt (ZZ S) (S i).e i)) ((Ey _ i c S _ _ oM ((y.j9 oM).j0 (zb l g.o))).mono ?_);rintro e z ⟨rfl,m⟩;exact⟨rfl,m⟩))))
       refine Jl ?_;rintro _ ⟨g,rfl⟩;go_wp2;exact Jj (by simp[results,results238,go_sem]) rfl ⟨.inr ⟨λh=>(h.2.2.1 i hlt).2.1 B,rfl⟩,zb l g.o⟩
      ·have K:=Jc (λh=>g2 ((QK _ _ _).1 h))
       have B:=hI g2;clear g2
       by_cases g3:In (S i).z 1 (if most - Z0 S i<20 then most - Z0 S i else 20)
       ·have q:=Jd g3
        have s:Hid (In (S i).z 1 20/\Z0 S (i+1)<=most):=by
         have h3:Z0 S (i+1)=_+_:=rfl;unfold In at g3 ⊢
         show _/\_
         rw[h3]
         split at g3 <;> omega
        clear g3;have M:IntKind.i64.wrap (most - Z0 S i - (S i).z)=most - Z0 S (i+1):=by
         have h1:=Fe S i (λj x=>(C j x).2.2)
         have h2:=s.1;have u:=r.out;unfold In at h2 u;have h3:Z0 S (i+1)=_+_:=rfl;rw[h3,Jk];omega
        refine ze kR kR ?_
        repeat(go_big_quiet_step ((rename_i g;first|(go_at_call 102;refine gE (v:=.bool true) (Z5 _ _) (by rw[t]))|(go_at_call 245;refine zr (v:=int i64 (Zt (ZZ S) (S i).e i)) ((Ey _ i c S _ _ oM ((y.j9 oM).j0 (zb l g.o))).mono ?_);rintro e z ⟨rfl,m⟩;exact⟨rfl,m⟩)|(go_at_call 191;refine zr (v:=.bool true) ((zx _ _ _ _).mono ?_);rintro e z ⟨rfl,rfl⟩;exact⟨by first|rw[q]|rw[show min (20:Int) (most - Z0 S i)=(if most - Z0 S i<20 then most - Z0 S i else 20) from by rw[Int.min_def];split <;> (split <;> omega),q],bZ⟩))))
        refine Jl ?_;rintro _ ⟨g,rfl⟩;have v1:=O g;clear q;generalize (if most - _<20 then most - _ else 20)=N;go_wp2;have D:Hid (∀ j,j<i+1->In (S j).e 1 9999/\¬ Qh _ j (S j).e/\In (S j).z 1 20):=λj x=>by
         by_cases e:j=i
         ·subst e;exact⟨A,B,s.1⟩
         ·exact C j oM
        go_roundw
        case rel=>exact⟨_,by omega,by go_num,rfl,D,s.2,zb l g.o⟩
        case measure=>simp[intOf];omega
       ·have q:=Jc g3
        have s:Hid (¬ An most n S):=λh=>by
         have h1:=(h.2.2.1 i hlt).2.2;have h2:=Nk S (i+1) n oM (λj x=>(h.2.2.1 j x).2.2)
         have h4:=h.2.2.2;have h3:Z0 S (i+1)=_+_:=rfl;unfold In at g3 h1
         split at g3 <;> omega
        clear g3;refine ze kR kR ?_
        repeat(go_big_quiet_step ((rename_i g;first|(go_at_call 102;refine gE (v:=.bool true) (Z5 _ _) (by rw[t]))|(go_at_call 245;refine zr (v:=int i64 (Zt (ZZ S) (S i).e i)) ((Ey _ i c S _ _ oM ((y.j9 oM).j0 (zb l g.o))).mono ?_);rintro e z ⟨rfl,m⟩;exact⟨rfl,m⟩)|(go_at_call 191;refine zr (v:=.bool false) ((zx _ _ _ _).mono ?_);rintro e z ⟨rfl,rfl⟩;exact⟨by first|rw[q]|rw[show min (20:Int) (most - Z0 S i)=(if most - Z0 S i<20 then most - Z0 S i else 20) from by rw[Int.min_def];split <;> (split <;> omega),q],bZ⟩))))
        refine Jl ?_;rintro _ ⟨g,rfl⟩;clear q;generalize (if most - _<20 then most - _ else 20)=N;go_wp2;exact Jj (by simp[results,results238,go_sem]) rfl ⟨.inr ⟨s,rfl⟩,zb l g.o⟩
     ·have t:=Jc g1
      have A:=hI g1;clear g1;refine ze kR kR ?_
      repeat(go_big_quiet_step ((first|(go_at_call 102;refine gE (v:=.bool false) (Z5 _ _) (by rw[t])))))
      refine Jl ?_;rintro _ ⟨g,rfl⟩;go_wp2;exact Jj (by simp[results,results238,go_sem]) rfl ⟨.inr ⟨λh=>A (h.2.2.1 i hlt).1,rfl⟩,zb l g.o⟩
    ·obtain rfl:i=n:=by omega
     go_wp2;exact Jj (by simp[results,results238,go_sem]) rfl ⟨.inl ⟨⟨r,h60,C,I⟩,rfl⟩,d⟩
  ·have E:decide (60<n)=true:=by simp;omega
   go_enter func238,ntmps238;go_wp2_with (first|(go_at_call 191;refine bM (zx _ _ _ _) λw' a=>?_;have a:=a.symm;subst a))
   exact Jj (by simp[results,results238,go_sem]) rfl ⟨.inr ⟨λh=>h60 h.2.1,rfl⟩,bZ⟩
 ·have F:=Jc g0
  have r:=hI g0;clear g0;go_enter func238,ntmps238;go_wp2_with (first|(go_at_call 191;refine bM (zx _ _ _ _) λw' a=>?_;have a:=a.symm;subst a))
  exact Jj (by simp[results,results238,go_sem]) rfl ⟨.inr ⟨λh=>r h.1,rfl⟩,bZ⟩
theorem FT (most:Int)(bo:Option Addr)(n c:Nat)(S:Nat->qO)(w:World)(l:n<=2097152)(k:n<=c)(i:qC w bo n S) :
  Calls prog 180 #[most,(bo,n,c)] w λe w'=>qH (An most n S) e/\Below w w w':=by
 have j:=hI i;clear i;go_enter func180,ntmps180;go_wp2_with fail;refine(Mn _ bo n c S _ l k j).mono ?_;rintro e w1 ⟨a,b⟩
 rcases a with⟨f,rfl⟩|⟨d,rfl⟩
 ·have h:=hI f
  clear f;go_wp2;go_ret;exact⟨zN h,b⟩
 ·have g:=hI d
  clear d;go_wp2;go_ret;exact⟨zh g,b⟩
theorem PN (bo:Option Addr)(n c:Nat)(S:Nat->qO)(x many:Int)(w:World)(hn:n<=1048576)(H:qC w bo n S)(g:bo=none->n=0/\c=0) :
  Calls prog 291 #[(bo,n,c),.agg #[x,many]] w λe w'=>(∃ v,e=.returned v/\w'.ownsRow w 234 2 v (n+1) (zL (Z2 S n x many) (n+1)))/\Below w w w':=by
 obtain⟨Q,I,D,u,E⟩:=info_parts Tryz.infoSeat;have O:=hI H;have A:=hI g;clear H g;have P:IntKind.i64.wrap ((n:Int)+1)=((n+1:Nat):Int):=by rw[Jk];omega
 have q:(Tryz.prog.info? 234).map (·.size)=some 2:=by rw[I];simp[u]
 have p:=zd (Ji _ w) (.cells #[x,many] 234);have J:=Jb w (.cells #[x,many] 234);go_enter func291,ntmps291;go_upto_region 2 with(first|(at_make;refine wpList_make_full _ rfl _ _ 143 rfl w.heap.size 234 Q _ 2 underlying143 I D u _ _ _ _ (n+1) rfl rfl sM sM (by rw[E];omega) (by unfold maxLen;omega) sM ?_;intro U f a))
 have l:=p.grown a sM (λj F=>by cases F)
 have K:=MP a J sM;obtain⟨k,d,t⟩:=Tx f;have L:=hI (Bj (O.j0 l));have B:=hI K;have y:=hI l;clear f a J p K l;rw[World.size_alloc] at d;obtain⟨V,G,s,m⟩:=gk U 143 143 234 _ (n+1) (n+1) bo n c k 234 _ 2 underlying143 q d oM (Zv _ _) A L (by rw[Zv,t];omega) (AG _ _)
 have b:=Lm s (N:=(n+1)*2) (by simp[Zv,t];omega)
 have h:=(m.block _ oM).trans B;have o0:=bC h 0;have o1:=bC h 1;have R:=b.cell (i:=n*2) oM;have T:=b.cell (i:=n*2+1) oM;have f0:=b.frozen (n*2);have f1:=b.frozen (n*2+1);have i1:=n0 n;have i2:(n:Int)<((n+1:Nat):Int):=oM;have z:=hI (y.trans (m.mono oM));have C:=hI b;clear s m b h d;generalize List.getD (_++k.toList.drop _) _ _=u0 at R;generalize List.getD (_++k.toList.drop _) _ _=u1 at T;have M:Hid (((V.setCell (w.heap.size+1,n*2) x).setCell (w.heap.size+1,n*2+1) many).rowIs (w.heap.size+1) 234 ((n+1)*2) (qK (Z2 S n x many))):=by
  refine((C.set _ _).set _ _).congr (λj F=>?_)
  have r:Z2 S n x many n=⟨x,many⟩:=by unfold Z2 Ak;rw[Je (Nat.lt_irrefl _)]
  by_cases h1:j=n*2+1
  ·subst h1;rw[Jf rfl,Bg,r]
  rw[Je h1]
  by_cases h0:j=n*2
  ·subst h0;rw[Jf rfl,Bf,r]
  rw[Je h0];have o:j<(zL S n).length:=by rw[Zv];omega
  rw[List.getD_eq_getElem?_getD,List.getElem?_append_left o,List.getElem?_eq_getElem o,Option.getD_some];have:=Gt (List.getElem?_eq_getElem o);rw[this.2];unfold qK Z2 Ak;rw[Jf (show j / 2<n by omega)]
 go_wp2;go_ret;exact⟨⟨_,rfl,ZM M oM (by unfold maxLen;omega)⟩,(z.setCell (by show w.heap.size<=w.heap.size+1;omega) _).setCell (by show w.heap.size<=w.heap.size+1;omega) _⟩
theorem Mo (most:Int)(bo:Option Addr)(n c:Nat)(S:Nat->qO)(x many:Int)(w:World)(t:n<=1048576)(_hc:n<=c)(p:qC w bo n S)(b:bo=none->n=0/\c=0) :
  Calls prog 284 #[most,(bo,n,c),x,many] w λe w'=>GD w' w.heap.size 234 most n S x many e/\Below w w w':=by
 have r:=hI p;have k:=hI b;clear p b;go_enter func284,ntmps284;go_wp2_with fail;refine(PN bo n c S x _ _ t r k).mono ?_;rintro e w1 ⟨⟨v,rfl,d⟩,m⟩;obtain⟨s,c1,rfl,o,_⟩:=zn d;have f:=hI d;clear d;go_wp2_with fail;refine(FT _ s _ c1 _ _ oM o (Al f)).mono ?_;rintro e w7 ⟨⟨q,rfl,j⟩,i⟩;have g:=zb m i;have l:=hI (zm i f)
 cases q with
 |false =>
  have a:Hid (¬ _):=λh=>by have:=j.2 h;cases this
  clear j;go_wp2;exact Jj (by simp[results,results284,go_sem]) rfl ⟨Py (λh=>a h.2),g⟩
 |true =>
  have a:=hI (j.1 rfl);clear j;go_wp2;exact Jj (by simp[results,results284,go_sem]) rfl ⟨NR ⟨Oi a,a⟩ l,g⟩
def CH (b:zA)(y:qD):Prop:=¬ CB b∨(y.d=4/\b.C≠1)∨(y.d=8/\(b.C≠1∨y.D<=b.y))
def DI (R m:Nat)(x:zY)(y:qD)(a:Int):Prop:=(R<=m->a=3)/\(m<R->CH (x.u m) y->a=4)/\(m<R->¬ CH (x.u m) y->a=0)
theorem Co (J H n I:Option Addr)(N M R S P O Q m:Nat)(x:zY)(y:qD)(w:World)(hR:R<=1048576)(b5:m<=1048576)(a8:y.k=(m:Int)+1)(T:qL w n R x.u) :
  Calls prog 163 #[.agg #[(J,N,S),(H,M,P),(n,R,O)],.agg (y,I,Q)] w λe w'=>(∃ code:Int,e=.returned code/\DI R m x y code)/\Below w.heap.size w w':=by
 have a2:=hI T;clear T;rw[a8];have a:Below _ w ((w.alloc (.cells #[(J,N,S),(H,M,P),(n,R,O)] 38)).alloc (.cells #[y.d,y.j1,int i64 ((m:Int)+1),(I,y.c,Q),y.v,y.f,y.j,y.w,y.h,y.x,y.y,y.D] 47)):=zd (zd bZ _) _;have K:=Cs a;have B:=Dt a
 by_cases hlt:m<R
 case neg =>
  have HC:DI R m x y 3:=⟨λ_=>rfl,λh=>absurd h hlt,λh=>absurd h hlt⟩
  have d0:decide ((R:Int)<(m:Int)+1)=true:=Jd (by omega)
  have d1:(R:Int)<(m:Int)+1:=by omega
  go_enter func163,ntmps163;go_upto_region 1 with fail;generalize (w.alloc _).alloc _=V at a K B ⊢;have f2:=zf K 2 _ rfl;have o2:=zf B 2 _ rfl;go_wp2;go_ret;exact⟨⟨3,rfl,HC⟩,a⟩
 obtain⟨Cc,X,U⟩:=a2;obtain⟨gb,off,l,d⟩:=X m hlt;have E:=hI l;clear l;obtain⟨g,f,t,g1,s1⟩:=U m hlt;obtain⟨b,u⟩:∃ b,b=x.u m:=⟨_,rfl⟩;rw[← u] at t;have a1:=hI u.symm;rw[t] at d;have c:=Ja w _ (d 0 (by decide))
 have d0:decide ((R:Int)<(m:Int)+1)=false:=Jc (by omega)
 have i0:(0:Int)<=(m:Int):=by omega
 have i1:(m:Int)<(R:Int):=by omega
 have b1:IntKind.i64.wrap ((m:Int)+1 - 1)=(m:Int):=by rw[Jk];omega
 have j:Hid (∀ q,(_↔_)->DI R m x y (if q=true then _ else 0)):=λq hq=>by
  unfold DI;rw[a1.out];exact⟨λh=>absurd hlt (by omega),λ_ h=>Jf (hq.2 h),λ_ h=>Je (λe=>h (hq.1 e))⟩
 go_enter func163,ntmps163;go_upto_region 1 with fail;generalize (w.alloc _).alloc _=V at a K B ⊢;have f2:=zf K 2 _ rfl;rw[E.out] at f2;have o2:=zf B 2 _ rfl;have c0:V.cell? _=some (.int _ _):=(a.cell (p:=⟨gb,off+_,_⟩) c).trans (d 0 (by decide))
 have c1:V.cell? _=some (.int _ _):=(a.cell (p:=⟨gb,_+1,_⟩) c).trans (d 1 (by decide))
 have c2:V.cell? _=some (.string _):=(a.cell (p:=⟨gb,_+2,_⟩) c).trans (d 2 (by decide))
 have c3:V.cell? _=some (.slice g _ f):=(a.cell (p:=⟨gb,_+3,_⟩) c).trans (d 3 (by decide))
 have c4:V.cell? _=some (.int _ _):=(a.cell (p:=⟨gb,_+4,_⟩) c).trans (d 4 (by decide))
 have c5:V.cell? _=some (.int _ _):=(a.cell (p:=⟨gb,_+5,_⟩) c).trans (d 5 (by decide))
 have c6:V.cell? _=some (.int _ _):=(a.cell (p:=⟨gb,_+6,_⟩) c).trans (d 6 (by decide))
 have c7:V.cell? _=some (.int _ _):=(a.cell (p:=⟨gb,_+7,_⟩) c).trans (d 7 (by decide))
 have c8:V.cell? _=some (.bool _):=(a.cell (p:=⟨gb,_+8,_⟩) c).trans (d 8 (by decide))
 have c9:V.cell? _=some (.int _ _):=(a.cell (p:=⟨gb,_+9,_⟩) c).trans (d 9 (by decide))
 have a3:V.cell? _=some (.int _ _):=(a.cell (p:=⟨gb,_+10,_⟩) c).trans (d 10 (by decide))
 have a4:V.cell? _=some (.int _ _):=(a.cell (p:=⟨gb,_+11,_⟩) c).trans (d 11 (by decide))
 have a5:V.cell? _=some (.int _ _):=(a.cell (p:=⟨gb,_+12,_⟩) c).trans (d 12 (by decide))
 have C:=Jb V (.cells (b,g,f) 150);have pX:=Kv C;have o:=zg B (.cells (b,g,f) 150);clear d t g1 s1 X U u;go_upto_region 4 with fail;have s:=zb a pX;generalize V.heap.size=xb at C ⊢;generalize V.alloc _=W at C pX o s ⊢;clear c0 c1 c2 c3 c4 c5 c6 c7 c8 c9 a3 a4 a5 f2 o2 K B a pX i0 i1 b1 d0;obtain⟨y0,y1,y2,y3,y4,y5,y6,y7,y8,y9,b2,b3,b4⟩:=Cl C;obtain⟨A,v⟩:∃ A,A=(b.C == 1):=⟨_,rfl⟩;have a9:=v.symm;have G:Hid (A=true↔b.C=1):=by rw[v];exact beq_iff_eq
 clear v;obtain⟨D,z⟩:∃ D,D=decide (CB b):=⟨_,rfl⟩;have F:Hid (D=true↔CB b):=by rw[z];exact decide_eq_true_iff
 have cl:=Gl b g f W;rw[← z] at cl;clear z;go_wp2_with fail;refine cl.mono ?_;clear cl;rintro e w4 ⟨rfl,i⟩;have L:=za C i;have r:=za o i;have a0:=hI (zb s i);clear y0 y1 y2 y3 y4 y5 y6 y7 y8 y9 b2 b3 b4 C o s i a9;have b7:=zf L 11 _ rfl;have o0:=zf r 0 _ rfl;have b6:=zf r 11 _ rfl;obtain⟨Y,a6⟩:∃ k,(y.d == 4)=k:=⟨_,rfl⟩;obtain⟨Z,a7⟩:∃ k,(y.d == 8)=k:=⟨_,rfl⟩;obtain⟨un,b0⟩:∃ k,decide (y.D<=b.y)=k:=⟨_,rfl⟩;have HQ:Hid ((!D || (Y && !A) || (Z && (!A || un)))=true↔CH b y):=by
  show _↔_
  have e4:Y=true↔y.d=4:=by rw[← a6];exact beq_iff_eq
  have e8:Z=true↔y.d=8:=by rw[← a7];exact beq_iff_eq
  have eu:un=true↔y.D<=b.y:=by rw[← b0];exact decide_eq_true_iff
  have el:=F.out;have es:=G.out;unfold CH;rw[← el,← e4,← e8,← eu,Ne,← es]
  cases D <;> cases Y <;> cases Z <;> cases A <;> cases un <;> simp
 clear L r F G;have HX:=hI (j _ HQ);clear HQ j
 cases D <;> cases Y <;> cases Z <;> cases A <;> cases un
 all_goals
  go_wp2;go_ret;exact⟨⟨_,rfl,HX⟩,a0⟩
theorem CS {G:Nat->Int}(h:Qb G x n<n):Zt G x n=(Qb G x n:Int):=by unfold Zt;rw[Jf h]
theorem CT {G:Nat->Int}(h:¬ Qb G x n<n):Zt G x n=-1:=Cf (λc=>h ((DB G n x).1 c))
theorem CI (b:zA)(o:Option Addr)(p:Nat)(l:zw)(k:Option Addr)(q:Nat)(w:World)(K:l.r<=1048576)(D:qx w k l.r l.K) :
  Calls prog 184 #[(k,l.r,q),.agg (b,o,p)] w λe w'=>qH (IJ l b) e/\Below w w w':=by
 have A:=hI D;clear D;obtain⟨c2,s⟩:=nM (decide (¬ (b.f=0/\b.j=0)));have u:=hI s;clear s;have j:Below _ w (w.alloc (.cells (b,o,p) 150)):=zd bZ _;have d:=Qc j;go_enter func184,ntmps184;go_wp2_with fail;generalize hBx:w.heap.size=Bx at d ⊢;generalize w.alloc _=V at j d ⊢;have M:=bC d 4;have N:=bC d 5;have O:=bC d 6;have P:=bC d 7;have Q:=bC d 8;have R:=bC d 9;refine(Du _ _ _ _ _ _ _).mono ?_;rw[← u.out];rintro e V1 ⟨rfl,a⟩;have m:=za d a;have n:=zb j a;clear M N O P Q R d j a
 cases c2 with
 |false =>
  have f:Hid (IJ l b):=.inl (by have:=u;simp at this;exact⟨this.1,this.2⟩)
  go_wp2;go_ret;exact⟨zN f,n⟩
 |true =>
  have v:Hid (¬ EN b):=by have:=Js u.symm;exact λh=>this h
  clear u;have L:=bC m 1;go_upto_region 4 with(first|(go_at_call 243;refine bM (BP k _ q _ _ _ K (A.j0 n)) λW a=>?_;have y:=za m a;have c:=zb n a))
  have J:=zD y;clear L m a hBx
  by_cases hf:Qb (Zm l.K) b.e l.r<l.r
  case neg =>
   have F:decide (0<=Zt (Zm l.K) b.e l.r)=false:=by rw[CT hf];rfl
   have f:Hid (¬ IJ l b):=λh=>by rcases h with h|h;exact v h;exact hf h.1
   clear hf;generalize Zt _ _ _=r at F ⊢;refine ze kR kR ?_
   repeat(go_big_quiet_step (fail))
   refine Jl ?_;rintro _ ⟨g,rfl⟩;go_wp2;go_ret;exact⟨zh f,zb c g.o⟩
  rw[CS hf];obtain⟨i,z⟩:=nM (Qb (Zm l.K) b.e l.r);rw[← z] at hf ⊢;have x:=hI z;clear z;obtain⟨sb,so,rfl,B,I,C,f3⟩:=A i hf;have t:=Ja w _ B;have q2:=gW c C t;have q3:=gW c f3 t;have z5:=gC y 5;have z6:=gC y 6;have i0:decide (0<=(i:Int))=true:=sM;have i1:=n0 i;have i2:(i:Int)<(l.r:Int):=oM;have E:=hI hf;clear B I C f3 hf
  by_cases c1:(l.K i).f=b.f
  case neg =>
   have G:((l.K i).f == b.f)=false:=by simpa using c1
   have f:Hid (¬ IJ l b):=λh=>by rcases h with h|h;exact v h;exact c1 (by rw[x.out];exact h.2.1)
   clear c1;refine ze kR kR ?_
   repeat(go_big_quiet_step (fail))
   refine Jl ?_;rintro _ ⟨g,rfl⟩;go_wp2;go_ret;exact⟨zh f,zb c g.o⟩
  have G:((l.K i).f == b.f)=true:=by simpa using c1
  by_cases c2:(l.K i).j=b.j
  case neg =>
   have H:((l.K i).j == b.j)=false:=by simpa using c2
   have f:Hid (¬ IJ l b):=λh=>by rcases h with h|h;exact v h;exact c2 (by rw[x.out];exact h.2.2)
   clear c1 c2;refine ze kR kR ?_
   repeat(go_big_quiet_step (fail))
   refine Jl ?_;rintro _ ⟨g,rfl⟩;go_wp2;go_ret;exact⟨zh f,zb c g.o⟩
  have H:((l.K i).j == b.j)=true:=by simpa using c2
  have f:Hid (IJ l b):=.inr (by rw[← x.out];exact⟨E,c1,c2⟩)
  clear c1 c2;refine ze kR kR ?_
  repeat(go_big_quiet_step (fail))
  refine Jl ?_;rintro _ ⟨g,rfl⟩;go_wp2;go_ret;exact⟨zN f,zb c g.o⟩
theorem BC (b:zA)(k:Option Addr)(n:Nat)(l:zw)(d:Option Addr)(o:Nat)(w:World)(D:l.t<=1048576)(y:qC w d l.t l.L) :
  Calls prog 186 #[(d,l.t,o),.agg (b,k,n)] w λe w'=>qH (IK l b) e/\Below w w w':=by
 have t:=hI y;clear y;have a:Below _ w (w.alloc (.cells (b,k,n) 150)):=zd bZ _;have m:=Qc a;go_enter func186,ntmps186;go_wp2_with fail;generalize hBx:w.heap.size=Bx at m ⊢;generalize w.alloc _=V at a m ⊢;have E:=bC m 1;refine bM (Ey d _ o _ _ _ D (t.j0 a)) λW f=>?_
 have u:=za m f;have c:=zb a f;have C:=zD u;clear E m f hBx
 by_cases hf:Qb (ZZ l.L) b.e l.t<l.t
 case neg =>
  have A:decide (0<=Zt (ZZ l.L) b.e l.t)=false:=by rw[CT hf];rfl
  have j:Hid (¬ IK l b):=λh=>hf h.1
  clear hf;generalize Zt _ _ _=r at A ⊢;go_upto_region 2 with fail;refine ze kR kR ?_
  repeat(go_big_quiet_step (fail))
  refine Jl ?_;rintro _ ⟨g,rfl⟩;go_wp2;go_ret;exact⟨zh j,zb c g.o⟩
 rw[CS hf];obtain⟨i,p⟩:=nM (Qb (ZZ l.L) b.e l.t);rw[← p] at hf ⊢;have s:=hI p;clear p;obtain⟨sb,so,rfl,v,x⟩:=t i hf;have q:=Ja w _ v;have q1:=gW c x q;have z4:=gC u 4;have i0:decide (0<=(i:Int))=true:=sM;have i1:=n0 i;have i2:(i:Int)<(l.t:Int):=oM;have z:=hI hf;clear v x hf
 by_cases c1:(l.L i).z=b.v
 case neg =>
  have B:((l.L i).z == b.v)=false:=by simpa using c1
  have j:Hid (¬ IK l b):=λh=>c1 (by rw[s.out];exact h.2)
  clear c1;go_upto_region 2 with fail;refine ze kR kR ?_
  repeat(go_big_quiet_step (fail))
  refine Jl ?_;rintro _ ⟨g,rfl⟩;go_wp2;go_ret;exact⟨zh j,zb c g.o⟩
 have B:((l.L i).z == b.v)=true:=by simpa using c1
 have j:Hid (IK l b):=by show IK l b;unfold IK;rw[← s.out];exact⟨z,c1⟩
 clear c1;go_upto_region 2 with fail;refine ze kR kR ?_
 repeat(go_big_quiet_step (fail))
 refine Jl ?_;rintro _ ⟨g,rfl⟩;go_wp2;go_ret;exact⟨zN j,zb c g.o⟩
theorem BD (b:zA)(E:Option Addr)(F:Nat)(s:qe)(l:zw)(D t:Option Addr)(P G:Nat)(w:World)(hn:l.m<=1048576)(q:∀ j,j<l.m->0<=(l.I j).H/\(l.I j).H<s.M.n)(hx:zJ w D s.M)(hz:qn w t l.m l.I) :
  Calls prog 185 #[(D,s.M.n,P),(t,l.m,G),.agg (b,E,F)] w λe w'=>qH (FU s l b) e/\Below w w w':=by
 have Z:=hI hz;have HX:=hI hx;have B:=hI q;clear hz hx q;obtain⟨c2,H⟩:=nM (decide (¬ (b.w=0/\b.h=false/\b.x=0)));have L:=hI H;clear H;have n:Below _ w (w.alloc (.cells (b,E,F) 150)):=zd bZ _;have m:=Qc n;go_enter func185,ntmps185;go_wp2_with fail;generalize hBx:w.heap.size=Bx at m ⊢;generalize w.alloc _=V at n m ⊢;have y4:=bC m 4;have y5:=bC m 5;have y6:=bC m 6;have y7:=bC m 7;have y8:=bC m 8;have y9:=bC m 9;refine(Ar _ _ _ _ _ _ _).mono ?_;rw[← L.out];rintro e V1 ⟨rfl,f⟩;have u:=za m f;have v:=zb n f;clear y4 y5 y6 y7 y8 y9 m n f
 cases c2 with
 |false =>
  have d:Hid (FU s l b):=.inl (by have:=L;simp at this;exact⟨this.1,this.2.1,this.2.2⟩)
  go_wp2;go_ret;exact⟨zN d,v⟩
 |true =>
  have M:Hid (¬ EO b):=by have:=Js L.symm;exact λh=>this h
  clear L;have y1:=bC u 1;go_upto_region 4 with(first|(go_at_call 244;refine bM (QY t _ G _ _ _ hn (Z.j0 v)) λW f=>?_;have N:=za u f;have a:=zb v f))
  have S:=zD N;clear y1 u f hBx
  by_cases hf:Qb (Zl l.I) b.e l.m<l.m
  case neg =>
   have e0:decide (0<=Zt (Zl l.I) b.e l.m)=false:=by rw[CT hf];rfl
   have d:Hid (¬ FU s l b):=λh=>by rcases h with h|h;exact M h;exact hf h.1
   clear hf;generalize Zt _ _ _=r at e0 ⊢;refine ze kR kR ?_
   repeat(go_big_quiet_step (fail))
   refine Jl ?_;rintro _ ⟨g,rfl⟩;go_wp2;go_ret;exact⟨zh d,zb a g.o⟩
  rw[CS hf];obtain⟨i,T⟩:=nM (Qb (Zl l.I) b.e l.m);rw[← T] at hf ⊢;have C:=hI T;clear T;obtain⟨o,I⟩:∃ k:Nat,(l.I i).H=(k:Int):=⟨(l.I i).H.toNat,by have:=B i hf;omega⟩
  have U:o<s.M.n:=by have:=B i hf;omega
  have O:Hid ((l.I i).H.toNat=o):=by show _=o;omega
  obtain⟨sb,so,rfl,f0,f1,f2,f3⟩:=Z i hf;obtain⟨xb,xo,rfl,R,g1⟩:=HX o U;have x:=Ja w _ f0;have X:=Ja w _ R;have q1:∀ g:zy W,_:=λg=>((zb a g.o).cell (p:=⟨sb,_+1,_⟩) x).trans (by rw[f1,I])
  have q2:=gW a f2 x;have p0:=gW a R X;have y:Hid (∀ g:zy W,_):=λg=>tR (zb a g.o) f3 x
  have z:Hid (∀ g:zy W,g.val.cell? _=some (.bool _)):=λg=>tR g.o (bC N 8) S
  have z7:=gC N 7;have z9:=gC N 9;have i0:decide (0<=(i:Int))=true:=sM;have i1:=n0 i;have i2:(i:Int)<(l.m:Int):=oM;have k1:=n0 o;have k2:(o:Int)<(s.M.n:Int):=oM;have Y:=hI hf;clear f0 f1 f2 f3 R g1 hf I
  by_cases ca:(l.I i).h=b.h
  case neg =>
   have d:Hid (¬ FU s l b):=λh=>by rcases h with h|h;exact M h;exact ca (by rw[C.out];exact h.2.1)
   cases hba:b.h with
   |true =>
    have c:(l.I i).h=false:=by cases c:(l.I i).h;rfl;rw[c,hba] at ca;exact absurd rfl ca
    have J:∀ g:zy W,g.val.cell? _=_:=λg=>by rw[y.out g,c]
    have K:∀ g:zy W,g.val.cell? _=_:=λg=>by rw[z.out g,hba]
    clear ca hba c;refine ze kR kR ?_
    repeat(go_big_quiet_step (fail))
    refine Jl ?_;rintro _ ⟨g,rfl⟩;go_wp2;go_ret;exact⟨zh d,zb a g.o⟩
   |false =>
    have c:(l.I i).h=true:=by cases c:(l.I i).h;rw[c,hba] at ca;exact absurd rfl ca;rfl
    have J:∀ g:zy W,g.val.cell? _=_:=λg=>by rw[y.out g,c]
    have K:∀ g:zy W,g.val.cell? _=_:=λg=>by rw[z.out g,hba]
    clear ca hba c;refine ze kR kR ?_
    repeat(go_big_quiet_step (fail))
    refine Jl ?_;rintro _ ⟨g,rfl⟩;go_wp2;go_ret;exact⟨zh d,zb a g.o⟩
  have A:=hI ca
  by_cases cc:s.M.A o=b.w
  case neg =>
   have ec:(s.M.A o == b.w)=false:=by simpa using cc
   have d:Hid (¬ FU s l b):=λh=>by rcases h with h|h;exact M h;exact cc (by rw[← O.out,C.out];exact h.2.2.2)
   cases hba:b.h with
   |true =>
    have J:∀ g:zy W,g.val.cell? _=_:=λg=>by rw[y.out g,ca,hba]
    have K:∀ g:zy W,g.val.cell? _=_:=λg=>by rw[z.out g,hba]
    clear ca cc hba;refine ze kR kR ?_
    repeat(go_big_quiet_step (fail))
    refine Jl ?_;rintro _ ⟨g,rfl⟩;go_wp2;go_ret;exact⟨zh d,zb a g.o⟩
   |false =>
    have J:∀ g:zy W,g.val.cell? _=_:=λg=>by rw[y.out g,ca,hba]
    have K:∀ g:zy W,g.val.cell? _=_:=λg=>by rw[z.out g,hba]
    clear ca cc hba
    by_cases cm:(l.I i).z=b.x
    ·have Q:((l.I i).z == b.x)=true:=by simpa using cm
     clear cm;refine ze kR kR ?_
     repeat(go_big_quiet_step (fail))
     refine Jl ?_;rintro _ ⟨g,rfl⟩;go_wp2;go_ret;exact⟨zh d,zb a g.o⟩
    ·have Q:((l.I i).z == b.x)=false:=by simpa using cm
     clear cm;refine ze kR kR ?_
     repeat(go_big_quiet_step (fail))
     refine Jl ?_;rintro _ ⟨g,rfl⟩;go_wp2;go_ret;exact⟨zh d,zb a g.o⟩
  have ec:(s.M.A o == b.w)=true:=by simpa using cc
  cases hba:b.h with
  |true =>
   have d:Hid (FU s l b):=.inr (by rw[← C.out];exact⟨Y,A,.inl hba,by rw[O.out];exact cc⟩)
   have J:∀ g:zy W,g.val.cell? _=_:=λg=>by rw[y.out g,ca,hba]
   have K:∀ g:zy W,g.val.cell? _=_:=λg=>by rw[z.out g,hba]
   clear ca cc hba;refine ze kR kR ?_
   repeat(go_big_quiet_step (fail))
   refine Jl ?_;rintro _ ⟨g,rfl⟩;go_wp2;go_ret;exact⟨zN d,zb a g.o⟩
  |false =>
   have J:∀ g:zy W,g.val.cell? _=_:=λg=>by rw[y.out g,ca,hba]
   have K:∀ g:zy W,g.val.cell? _=_:=λg=>by rw[z.out g,hba]
   by_cases cm:(l.I i).z=b.x
   ·have Q:((l.I i).z == b.x)=true:=by simpa using cm
    have d:Hid (FU s l b):=.inr (by rw[← C.out];exact⟨Y,A,.inr cm,by rw[O.out];exact cc⟩)
    clear ca cc hba cm;refine ze kR kR ?_
    repeat(go_big_quiet_step (fail))
    refine Jl ?_;rintro _ ⟨g,rfl⟩;go_wp2;go_ret;exact⟨zN d,zb a g.o⟩
   ·have Q:((l.I i).z == b.x)=false:=by simpa using cm
    have d:Hid (¬ FU s l b):=λh=>by
     rcases h with h|h
     ·exact M h
     ·rcases h.2.2.1 with h|h
      ·rw[hba] at h;cases h
      ·exact cm (by rw[C.out];exact h)
    clear ca cc hba cm;refine ze kR kR ?_
    repeat(go_big_quiet_step (fail))
    refine Jl ?_;rintro _ ⟨g,rfl⟩;go_wp2;go_ret;exact⟨zh d,zb a g.o⟩
theorem Hs {G:Prop}{P:Program}{a:Act}{w:World}(h:wpAny P .any #[] (λ_ _ _=>G) 0 #[] a w):G:=h.2
/-- It names one whose state bars it. -/
theorem Lu (x:qD)(m:Option Addr)(o:Nat)(a:Option Addr)(n c:Nat)(k:Nat)(w:World)(y:Ze w)(A:x.d=(k:Int))(E:k<10)(J:Q8 k=true)(pe:Nat->Addr)(z:qI w pe)(S:Nat->zA)(hz:qL w a n S)(hn:n<=1048576)(j:Nat)(L:x.k=(j:Int)+1)(t:j<n)(G:¬ Fm x.d (S j) x.D) :
  Calls prog 107 #[(a,n,c),.agg (x,m,o)] w λe w'=>e=.panicked [{ v:=.iface 96 (.agg #[.iface 391 (.pointer (some (pe 4)))]),recovered:=false }]/\Below w w w':=by
 have l:=Jb w (.cells (x,m,o) 47);have f:Below _ w (w.alloc (.cells (x,m,o) 47)):=zd bZ _;have N:(w.alloc _).cell? _=some (.bool true):=tR f (by rw[← J];exact(y k E).2.1) y.lt
 have O:(w.alloc (.cells (x,m,o) 47)).cell? (w.heap.size,0)=some (k:Int):=by rw[← A];exact bC l 0
 have B:=n0 k;have D:(k:Int)<10:=oM;obtain⟨C,I,hI⟩:=hz;obtain⟨bb,bo,rfl,i⟩:=I j t;obtain⟨q,r,g,_,_⟩:=hI j t;obtain⟨b,K⟩:=nM (S j);rw[← K] at g G;have R:Hid (¬ _):=G;have d:bb<w.heap.size:=Ja w _ (i 0 dC);have H:=(qI.j0 z f).c3;have u:=(qI.j0 z f).c4;have X:decide (x.k<=(n:Int))=true:=dT;have ej:x.k - 1=(j:Int):=oM;have Y:1<=x.k:=oM;have Z:x.k<=1048576:=oM;have HJ:Hid _:=L;have Q:Hid _:=A;clear A L;go_enter func107,ntmps107;go_upto_region 1 with fail;generalize w.alloc _=W at l f N O H u ⊢;have c0:W.cell? _=some (.int _ _):=(f.cell (p:=⟨bb,bo+_,_⟩) d).trans (rC g (i 0 dC));have c1:W.cell? _=some (.int _ _):=(f.cell d).trans (rC g (i 1 dC));have c2:W.cell? _=some (.string _):=(f.cell d).trans (rC g (i 2 dC));have c3:W.cell? _=some (.slice q _ r):=(f.cell d).trans (rC g (i 3 dC));have c4:W.cell? _=some (.int _ _):=(f.cell d).trans (rC g (i 4 dC));have c5:W.cell? _=some (.int _ _):=(f.cell d).trans (rC g (i 5 dC));have c6:W.cell? _=some (.int _ _):=(f.cell d).trans (rC g (i 6 dC));have c7:W.cell? _=some (.int _ _):=(f.cell d).trans (rC g (i 7 dC));have c8:W.cell? _=some (.bool _):=(f.cell d).trans (rC g (i 8 dC));have c9:W.cell? _=some (.int _ _):=(f.cell d).trans (rC g (i 9 dC));have T:W.cell? _=some (.int _ _):=(f.cell d).trans (rC g (i 10 dC));have U:W.cell? _=some (.int _ _):=(f.cell d).trans (rC g (i 11 dC));have V:W.cell? _=some (.int _ _):=(f.cell d).trans (rC g (i 12 dC));have y1:W.cell? _=some (.string _):=bC l 1;have y2:W.cell? _=some (.int _ _):=bC l 2;have y3:W.cell? _=some (.slice m _ o):=bC l 3;have y4:W.cell? _=some (.int _ _):=bC l 4;have y5:W.cell? _=some (.int _ _):=bC l 5;have y6:W.cell? _=some (.int _ _):=bC l 6;have y7:W.cell? _=some (.int _ _):=bC l 7;have y8:W.cell? _=some (.bool _):=bC l 8;have y9:W.cell? _=some (.int _ _):=bC l 9;have a0:W.cell? _=some (.int _ _):=bC l 10;have a1:W.cell? _=some (.int _ _):=bC l 11;have F:4<W.heap.size:=Ja W _ u;clear y J z G i g I hI K l;go_upto_region 3 with(go_at_call 193;refine(ZO _ _).mono ?_;rintro e w1 ⟨rfl,rfl⟩);have ew:IntKind.i64.wrap (j:Int)=(j:Int):=by rw[Jk];omega
 rw[← Q.out] at O;clear N H X B D;go_region_with (first|(go_at_call 196;refine(No x m o b q r _).mono ?_;rintro e w2 ⟨⟨v,rfl,M⟩,s⟩;obtain rfl:=Bool.eq_false_iff.2 (λh=>R (M.1 h));clear M;have g5:=(s.cell (p:=⟨4,0,_⟩) (by simpa using F)).trans (by simpa using u))|(go_at_call 193;refine(AK _ _ _).mono ?_;rintro e w3 ⟨rfl,rfl⟩;refine Hs (P:=prog) (a:=⟨#[],[]⟩) (w:=w) ?_))
 all_goals exact⟨rfl,rfl,zb f.drew s⟩
end Go.Proofs.YtmdnjgihooflfaaGreatDoor
