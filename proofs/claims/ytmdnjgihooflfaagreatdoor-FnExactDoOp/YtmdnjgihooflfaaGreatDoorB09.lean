import Derived.Deep.CutBlock
import Derived.Great.Walk
import Derived.Test.YtmdnjgihooflfaaGreatDoorB04
import Derived.Test.YtmdnjgihooflfaaGreatDoorB03
import Derived.Test.YtmdnjgihooflfaaGreatDoorB05
namespace Go.Proofs.YtmdnjgihooflfaaGreatDoor
open Go.RowKit
open Go.Value (int)
open Go.IntKind (i64)
open _root_.Go.Proofs.Tryz
set_option maxHeartbeats 64000000
set_option maxRecDepth 1000000
variable{k:Nat}
theorem Pp (pe len hei cl:Int)(all:Bool)(be:Int)(w:World)(m:In pe 1 20)(k:Zn w)(l:Zp w) :
  Calls prog 285 #[.agg #[pe,len,hei,cl,all,be]] w λe w'=>e=.returned (int i64 (40*pe+Qd len hei+Zs cl all be))/\Below w w w':=by
 obtain⟨f,c⟩:=nM (Qd len hei);obtain⟨h,b⟩:=nM (Zs cl all be);rw[← c,← b];have r:0<=f/\f<=500:=by rw[c];exact Dc len hei
 have s:0<=h/\h<=320:=by rw[b];exact BK cl all be
 have j:=hI c;have i:=hI b;have n:=hI k;have o:=hI l;unfold In at m;have t:=wR (40*pe);have u:=wR (40*pe+f);have x:=wR (40*pe+f+h);clear c b k l r s m;go_enter func285,ntmps285;go_upto_region 1 with fail;have a:Below _ w (w.alloc (.cells #[pe,len,hei,cl,all,be] 45)):=zd bZ _;have d:=Qc a;generalize w.alloc _=W at a d ⊢;have s0:=zD d;have y:=gC d 0;have z:=gC d 1;have A:=gC d 2;have B:=gC d 3;have C:=gC d 4;have D:=gC d 5;have p:Hid (∀ g:zy W,_):=λg=>(n.j0 a).j0 g.o
 have q:Hid (∀ g:zy W,_):=λg=>(o.j0 a).j0 g.o
 refine ze kR kR ?_
 repeat(go_big_quiet_step ((rename_i g;first|(go_at_call 292;refine gF (v:=int i64 f) (Po _ _ _ (p g)) (by rw[j.out]))|(go_at_call 293;refine gF (v:=int i64 h) (LU _ _ _ _ (q g)) (by rw[i.out])))))
 refine Jl ?_;rintro _ ⟨g,rfl⟩;clear y z A B C D;go_wp2;go_ret;exact⟨rfl,zb a g.o⟩
theorem LV (pe len hei cl:Int)(all:Bool)(be legs:Int)(w:World)(z:Zn w)(j:Zp w) :
  Calls prog 253 #[.agg #[pe,len,hei,cl,all,be],legs] w λe w'=>DU ⟨pe,len,hei,cl,all,be⟩ legs e/\Below w w w':=by
 have A:=hI z;have B:=hI j;clear z j;go_enter func253,ntmps253;go_wp2_with fail;have g:Below _ w (w.alloc (.cells #[pe,len,hei,cl,all,be] 45)):=zd bZ _;have u:=Qc g;generalize w.alloc _=W at g u ⊢;refine(QX pe len hei cl all be _).mono ?_;rintro e w1 ⟨⟨q,rfl,s⟩,k⟩;have o:=za u k;have b:=zb g k;obtain⟨P,Q,R,S,T,U⟩:=Rz o;clear g u k
 cases q with
 |false =>
  have C:Hid (¬ _):=λh=>by have:=s.2 h;cases this
  clear s o;go_wp2;exact Jj (by simp[results,results253,go_sem]) rfl ⟨Il (λh=>C h.1),b⟩
 |true =>
  have m:=hI (s.1 rfl);clear s
  by_cases k1:In legs 1 3
  ·have O:=Jd k1
   have n:=hI k1;obtain⟨F,j⟩:=nM (40*pe+Qd len hei+Zs cl all be);have t:=hI j;have x:0<=F/\F<=2000:=by
    have h1:=Dc len hei;have h2:=BK cl all be;have h3:=m.1;unfold In at h3;dsimp only at h3;rw[j];omega
   obtain⟨V,y⟩:=nM (zP ⟨pe,len,hei,cl,all,be⟩ legs);obtain⟨M,r⟩:=nM (legs*F);have c:Hid (V=Cm pe legs M):=by show V=_;rw[y,r,j];rfl
   have d:=hI y;have p:0<=M/\M<=10000:=by
    have h3:legs=1∨legs=2∨legs=3:=by unfold In at k1;omega
    rw[r]
    rcases h3 with rfl|rfl|rfl <;> omega
   have D:IntKind.i64.wrap (legs*F)=M:=by rw[← r,Jk];omega
   clear k1 j y r x;go_wp2_with (first|(go_at_call 191;refine bM (zx _ _ _ _) λw' a=>?_;have a:=a.symm;subst a))
   refine(Pp pe len hei cl all be _ m.1 (A.j0 b) (B.j0 b)).mono ?_;rw[← t.out];rintro e w2 ⟨rfl,l⟩;have c0:=bC (za o l) 0;have f:=zb b l;clear P Q R S T U o l;have q1:Int.tdiv M 20=M / 20:=by rw[Int.tdiv_eq_ediv_of_nonneg p.1]
   have q2:Int.tdiv M 10=M / 10:=by rw[Int.tdiv_eq_ediv_of_nonneg p.1]
   have E:=wR (M / 20);have G:=wR (M - M / 20);have H:=wR (M / 10);have I:=wR (M - M / 10);have q3:Int.tdiv (M - M / 20) 10=(M - M / 20) / 10:=by rw[Int.tdiv_eq_ediv_of_nonneg oM]
   have J:=wR ((M - M / 20) / 10);have K:=wR (M - M / 20 - (M - M / 20) / 10)
   by_cases j1:8<=pe
   ·have L:=Jd j1
    by_cases j2:legs=3
    ·subst j2
     have i:Hid (zP ⟨pe,len,hei,cl,all,be⟩ 3=M - M / 20 - (M - M / 20) / 10):=by show _=_;rw[← d.out,c.out];unfold Cm;rw[Jf j1,Jf rfl]
     clear j1;go_wp2;exact Jj (v:=.tuple #[int i64 (M - M / 20 - (M - M / 20) / 10),.bool true]) (by simp[results,results253,go_sem]) rfl ⟨by rw[← i.out];exact Cx ⟨m,n⟩,f⟩
    ·have N:(legs == 3)=false:=by simpa using j2
     have i:Hid (zP ⟨pe,len,hei,cl,all,be⟩ legs=M - M / 20):=by show _=_;rw[← d.out,c.out];unfold Cm;rw[Jf j1,Je j2]
     clear j1 j2;go_wp2;exact Jj (v:=.tuple #[int i64 (M - M / 20),.bool true]) (by simp[results,results253,go_sem]) rfl ⟨by rw[← i.out];exact Cx ⟨m,n⟩,f⟩
   ·have L:=Jc j1
    by_cases j2:legs=3
    ·subst j2
     have i:Hid (zP ⟨pe,len,hei,cl,all,be⟩ 3=M - M / 10):=by show _=_;rw[← d.out,c.out];unfold Cm;rw[Je j1,Jf rfl]
     clear j1;go_wp2;exact Jj (v:=.tuple #[int i64 (M - M / 10),.bool true]) (by simp[results,results253,go_sem]) rfl ⟨by rw[← i.out];exact Cx ⟨m,n⟩,f⟩
    ·have N:(legs == 3)=false:=by simpa using j2
     have i:Hid (zP ⟨pe,len,hei,cl,all,be⟩ legs=M):=by show _=_;rw[← d.out,c.out];unfold Cm;rw[Je j1,Je j2]
     clear j1 j2;go_wp2;exact Jj (v:=.tuple #[M,.bool true]) (by simp[results,results253,go_sem]) rfl ⟨by rw[← i.out];exact Cx ⟨m,n⟩,f⟩
  ·have O:=Jc k1
   have n:=hI k1;clear k1 o;go_wp2_with (first|(go_at_call 191;refine bM (zx _ _ _ _) λw' a=>?_;have a:=a.symm;subst a))
   exact Jj (by simp[results,results253,go_sem]) rfl ⟨Il (λh=>n h.2),b⟩
theorem Dv (y:qD)(c:Option Addr)(d:Nat)(w:World)(p:Zn w)(q:Zp w)(h:QO ⟨y.v,y.f,y.j,y.w,y.h,y.x⟩ y.c) :
  Calls prog 202 #[.agg (y,c,d)] w λe w'=>e=.returned (zP ⟨y.v,y.f,y.j,y.w,y.h,y.x⟩ y.c)/\Below w w w':=by
 have a:Below _ w (w.alloc (.cells (y,c,d) 47)):=zd bZ _;have b:=Qc a;go_enter func202,ntmps202;go_upto_region 1 with fail;generalize w.alloc _=V at a b ⊢;have i:=bC b 3;have j:=bC b 4;have k:=bC b 5;have l:=bC b 6;have m:=bC b 7;have n:=bC b 8;have o:=bC b 9;go_wp2_with fail;clear i j k l m n o;refine(LV _ _ _ _ _ _ _ V (p.j0 a) (q.j0 a)).mono ?_;rintro e W ⟨hr,f⟩;have g:=by unfold DU at hr;rw[Jf h,Jd h] at hr;exact hr
 subst g;clear hr;go_wp2;go_ret;exact⟨rfl,zb a f⟩
def Pq (b:zA)(dep:Int)(y:qD):Int:=if y.d=4 then b.j2 else if y.d=5 then zP ⟨y.v,y.f,y.j,y.w,y.h,y.x⟩ y.c else if y.d=6 then Z9 b.j2 (dep - y.D) else 0
theorem fj (b:zA)(m:Option Addr)(l:Nat)(dep:Int)(y:qD)(d:Option Addr)(f:Nat)(w:World)(u:Zn w)(v:Zp w)(n:y.d=5->QO ⟨y.v,y.f,y.j,y.w,y.h,y.x⟩ y.c)(j:In dep 0 1000000/\(y.d=6->In y.D 0 1000000)) :
  Calls prog 206 #[.agg (b,m,l),dep,.agg (y,d,f)] w λe w'=>e=.returned (Pq b dep y)/\Below w w w':=by
 have a:Below _ w ((w.alloc (.cells (b,m,l) 150)).alloc (.cells (y,d,f) 47)):=zd (zd bZ _) _;have i:=Cs a;have c:=Dt a;unfold Pq
 by_cases k4:y.d=4
 ·have r:(y.d == 4)=true:=by simpa using k4
  rw[Jf k4];clear k4 n j;go_enter func206,ntmps206;go_upto_region 1 with fail;generalize (w.alloc _).alloc _=V at a i c ⊢;have o:=bC c 0;have k:=bC i 12;go_wp2;go_ret;exact⟨rfl,a⟩
 have r:(y.d == 4)=false:=by simpa using k4
 rw[Je k4]
 by_cases k5:y.d=5
 ·have s:(y.d == 5)=true:=by simpa using k5
  have q:=hI (n k5);rw[Jf k5];clear k4 k5 n j;go_enter func206,ntmps206;go_upto_region 1 with fail;generalize (w.alloc _).alloc _=V at a i c ⊢;obtain⟨o,x,z,A,B,C,D,E,F,G,p,h⟩:=DQ c;go_wp2_with fail;clear o x z A B C D E F G p h;refine bM (Dv y d f V (u.j0 a) (v.j0 a) q) λW g=>?_
  go_wp2;go_ret;exact⟨rfl,zb a g⟩
 have s:(y.d == 5)=false:=by simpa using k5
 rw[Je k5]
 by_cases k6:y.d=6
 ·have t:(y.d == 6)=true:=by simpa using k6
  have hw:IntKind.i64.wrap (dep - y.D)=dep - y.D:=by have h1:=j.1;have h2:=j.2 k6;unfold In at h1 h2;rw[Jk];omega
  rw[Jf k6];clear k4 k5 k6 n j;go_enter func206,ntmps206;go_upto_region 1 with fail;generalize (w.alloc _).alloc _=V at a i c ⊢;have o:=bC c 0;have h:=bC c 11;have k:=bC i 12;go_wp2_with fail;refine bM (KI _ _ V) λW g=>?_
  clear o h k;go_wp2;go_ret;exact⟨rfl,zb a g⟩
 ·have t:(y.d == 6)=false:=by simpa using k6
  rw[Je k6];clear k4 k5 k6 n j;go_enter func206,ntmps206;go_upto_region 1 with fail;generalize (w.alloc _).alloc _=V at a i c ⊢;have o:=bC c 0;go_wp2;go_ret;exact⟨rfl,a⟩
def Zx (r k:Nat):Nat:=if k<=r then k else k - 1
theorem TN (s:ql)(d:Nat)(q:Int)(w:World)(c:w.cell? (d,2)=some (int i64 q)) :
  Calls prog 277 #[.agg #[s.e,s.ln,s.f,s.j],.pointer (some (d,0))] w λe w'=>e=.returned (.bool (s.e != q))/\Below w w w':=by
 have a:Below _ w (w.alloc (.cells #[s.e,s.ln,s.f,s.j] 220)):=zd bZ _;have b:=Qc a;have c2:=(a.cell (Ja w _ c)).trans c;go_enter func277,ntmps277;go_upto_region 1 with fail;generalize w.alloc _=V at a b c2 ⊢;have c0:=bC b 0;go_wp2;go_ret;exact⟨rfl,a⟩
theorem TO (N:Option Addr)(n c:Nat)(S:Nat->ql)(q:Int)(r K:Nat)(w:World)(hn:n<=1048576)(hr:r<n)(U:(S r).e=q)(l:∀ j,j<n->(S j).e=q->j=r)(Y:qx w N n S)(T:w.cell? (K,2)=some (int i64 q)) :
  Calls prog 276 #[(N,n,c),.func (.func 277) #[] #[.pointer (some (K,0))]] w λe w'=>(∃ v,e=.returned v/\w'.ownsRow w 220 4 v (n - 1) (zH (ZN S r) (n - 1)))/\Below w w w':=by
 obtain⟨j0,ji,H,I,J⟩:=info_parts Tryz.infoStay;have HX:=hI Y;have L:=hI T;have HE:=hI U;have HO:=hI l;clear Y T U l;go_enter func276,ntmps276;go_wp2;go_loopw [5,7,10] (λs5 _ i wr=>∃ k,k<=n/\i=int i64 k/\wr.ownsRow w 220 4 s5 (Zx r k) (zH (ZN S r) (Zx r k))/\Below w w wr) (λ_ _ i _=>n - (intOf i).toNat)
 case atStart=>exact⟨0,Jq _,rfl,World.ownsRow_nil _ _ _ _,bZ⟩
 case round =>
  obtain⟨k,hk,rfl,A,d⟩:=hrel
  by_cases hlt:k<n
  ·obtain⟨b,of,rfl,z,h1,h2,h3⟩:=HX k hlt
   obtain⟨s,t⟩:=nM (S k);rw[← t] at z h1 h2 h3;have p:=hI t;have lb:=Ja w _ z;obtain⟨c0,c1,c2,c3⟩:=OP d z h1 h2 h3 lb;have a:=zd d (.cells #[s.e,s.ln,s.f,s.j] 220);have x:=Jb wr (.cells #[s.e,s.ln,s.f,s.j] 220);have f:=A.alloc (.cells #[s.e,s.ln,s.f,s.j] 220);clear z h1 h2 h3 t A;go_upto_region 5 with fail;generalize wr.alloc _=V at a x f ⊢;generalize wr.heap.size=sx at x ⊢;clear c0 c1 c2 c3 d wr;obtain⟨O,P,Q,R⟩:=Qk x;go_wp2_with fail;clear O P Q R;refine bM (TN s K q V ((a.cell (Ja w _ L)).trans L)) λW g=>?_
   replace a:=zb a g;replace x:=za x g;replace f:=zm g f;clear g V
   by_cases hkr:k=r
   ·have o:Hid (Zx r (k+1)=Zx r k):=by show _=_;unfold Zx;rw[Je oM,Jf oM];omega
    have hq:(s.e != q)=false:=by rw[p.out,hkr,HE.out];simp
    go_wp2;go_roundw
    case rel=>exact⟨k+1,by omega,by go_num,by rw[o.out];exact f,a⟩
    case measure=>simp[intOf];omega
   ·have o:Hid (Zx r (k+1)=Zx r k+1/\(ZN S r) (Zx r k)=s):=by
     rw[p.out];unfold Zx ZN
     by_cases h:k<=r
     ·rw[Jf oM,Jf h,Jf oM];exact⟨rfl,rfl⟩
     ·rw[Je oM,Je h,Je oM];exact⟨by omega,by rw[show k - 1+1=k by omega]⟩
    have hq:(s.e != q)=true:=by rw[p.out];simp;exact λh=>hkr (HO k hlt h)
    obtain⟨M,E⟩:=nM (Zx r k);have a0:M<=n:=by rw[E];unfold Zx;split <;> omega
    rw[← E] at f o;clear E;obtain⟨O,P,Q,R⟩:=Qk x;have y:=f.alloc (.cells #[s.e,s.ln,s.f,s.j] 220);have B:Hid (∀ j u,([_,_,_,_]:List Value)[j]?=_->(W.alloc (.cells #[s.e,s.ln,s.f,s.j] 220)).cell? _=_):=Jo (Jb W _);have m:w.heap.size<=(W.alloc (.cells #[s.e,s.ln,s.f,s.j] 220)).heap.size:=(zd a _).size;go_wp2_with (first|(at_builtin;refine wpList_append_lies _ rfl _ _ 141 rfl _ 220 j0 _ 4 32 underlying141 ji H I J rfl dC _ _ _ (by rfl) y _ 1 1 _ rfl rfl B (by intro u X;simp at X;rcases X with rfl|rfl|rfl|rfl <;> rfl) dC (by unfold maxLen;omega) oM m _ rfl ?_;intro g3 D Z G F _ _))
    have C:Hid (Z.ownsRow w 220 4 (some (g3,0),M+1,D) (Zx r (k+1)) (zH (ZN S r) (Zx r (k+1)))):=by
     show Z.ownsRow _ _ _ _ _ _
     rw[o.1,AN,o.2];exact G
    go_roundw
    case rel=>exact⟨_,by omega,by go_num,C,(zd a _).grown F m (λj hj=>(y.lt j hj).1)⟩
    case measure=>simp[intOf];omega
  ·obtain rfl:k=n:=by omega
   have o:Hid (Zx r k=_):=Je oM;rw[o.out] at A;go_wp2;go_ret;exact⟨⟨_,rfl,A⟩,d⟩
theorem TP (s:zU)(d:Nat)(q:Int)(w:World)(c:w.cell? (d,2)=some (int i64 q)) :
  Calls prog 279 #[.agg #[s.e,s.H,s.z,s.h],.pointer (some (d,0))] w λe w'=>e=.returned (.bool (s.e != q))/\Below w w w':=by
 have a:Below _ w (w.alloc (.cells #[s.e,s.H,s.z,s.h] 228)):=zd bZ _;have b:=Qc a;have c2:=(a.cell (Ja w _ c)).trans c;go_enter func279,ntmps279;go_upto_region 1 with fail;generalize w.alloc _=V at a b c2 ⊢;have c0:=bC b 0;go_wp2;go_ret;exact⟨rfl,a⟩
theorem TQ (N:Option Addr)(n c:Nat)(S:Nat->zU)(q:Int)(r K:Nat)(w:World)(hn:n<=1048576)(hr:r<n)(U:(S r).e=q)(l:∀ j,j<n->(S j).e=q->j=r)(Y:qn w N n S)(T:w.cell? (K,2)=some (int i64 q)) :
  Calls prog 278 #[(N,n,c),.func (.func 279) #[] #[.pointer (some (K,0))]] w λe w'=>(∃ v,e=.returned v/\w'.ownsRow w 228 4 v (n - 1) (zF (ZG S r) (n - 1)))/\Below w w w':=by
 obtain⟨j0,ji,H,I,J⟩:=info_parts Tryz.infoRoom;have HX:=hI Y;have L:=hI T;have HE:=hI U;have HO:=hI l;clear Y T U l;go_enter func278,ntmps278;go_wp2;go_loopw [5,7,10] (λs5 _ i wr=>∃ k,k<=n/\i=int i64 k/\wr.ownsRow w 228 4 s5 (Zx r k) (zF (ZG S r) (Zx r k))/\Below w w wr) (λ_ _ i _=>n - (intOf i).toNat)
 case atStart=>exact⟨0,Jq _,rfl,World.ownsRow_nil _ _ _ _,bZ⟩
 case round =>
  obtain⟨k,hk,rfl,A,d⟩:=hrel
  by_cases hlt:k<n
  ·obtain⟨b,of,rfl,z,h1,h2,h3⟩:=HX k hlt
   obtain⟨s,t⟩:=nM (S k);rw[← t] at z h1 h2 h3;have p:=hI t;have lb:=Ja w _ z;obtain⟨c0,c1,c2,c3⟩:=OP d z h1 h2 h3 lb;have a:=zd d (.cells #[s.e,s.H,s.z,s.h] 228);have x:=Jb wr (.cells #[s.e,s.H,s.z,s.h] 228);have f:=A.alloc (.cells #[s.e,s.H,s.z,s.h] 228);clear z h1 h2 h3 t A;go_upto_region 5 with fail;generalize wr.alloc _=V at a x f ⊢;generalize wr.heap.size=sx at x ⊢;clear c0 c1 c2 c3 d wr;obtain⟨O,P,Q,R⟩:=Qk x;go_wp2_with fail;clear O P Q R;refine bM (TP s K q V ((a.cell (Ja w _ L)).trans L)) λW g=>?_
   replace a:=zb a g;replace x:=za x g;replace f:=zm g f;clear g V
   by_cases hkr:k=r
   ·have o:Hid (Zx r (k+1)=Zx r k):=by show _=_;unfold Zx;rw[Je oM,Jf oM];omega
    have hq:(s.e != q)=false:=by rw[p.out,hkr,HE.out];simp
    go_wp2;go_roundw
    case rel=>exact⟨k+1,by omega,by go_num,by rw[o.out];exact f,a⟩
    case measure=>simp[intOf];omega
   ·have o:Hid (Zx r (k+1)=Zx r k+1/\(ZG S r) (Zx r k)=s):=by
     rw[p.out];unfold Zx ZG
     by_cases h:k<=r
     ·rw[Jf oM,Jf h,Jf oM];exact⟨rfl,rfl⟩
     ·rw[Je oM,Je h,Je oM];exact⟨by omega,by rw[show k - 1+1=k by omega]⟩
    have hq:(s.e != q)=true:=by rw[p.out];simp;exact λh=>hkr (HO k hlt h)
    obtain⟨M,E⟩:=nM (Zx r k);have a0:M<=n:=by rw[E];unfold Zx;split <;> omega
    rw[← E] at f o;clear E;obtain⟨O,P,Q,R⟩:=Qk x;have y:=f.alloc (.cells #[s.e,s.H,s.z,s.h] 228);have B:Hid (∀ j u,([_,_,_,_]:List Value)[j]?=_->(W.alloc (.cells #[s.e,s.H,s.z,s.h] 228)).cell? _=_):=Jo (Jb W _);have m:w.heap.size<=(W.alloc (.cells #[s.e,s.H,s.z,s.h] 228)).heap.size:=(zd a _).size;go_wp2_with (first|(at_builtin;refine wpList_append_lies _ rfl _ _ 142 rfl _ 228 j0 _ 4 32 underlying142 ji H I J rfl dC _ _ _ (by rfl) y _ 1 1 _ rfl rfl B (by intro u X;simp at X;rcases X with rfl|rfl|rfl|rfl <;> rfl) dC (by unfold maxLen;omega) oM m _ rfl ?_;intro g3 D Z G F _ _))
    have C:Hid (Z.ownsRow w 228 4 (some (g3,0),M+1,D) (Zx r (k+1)) (zF (ZG S r) (Zx r (k+1)))):=by
     show Z.ownsRow _ _ _ _ _ _
     rw[o.1,Aq,o.2];exact G
    go_roundw
    case rel=>exact⟨_,by omega,by go_num,C,(zd a _).grown F m (λj hj=>(y.lt j hj).1)⟩
    case measure=>simp[intOf];omega
  ·obtain rfl:k=n:=by omega
   have o:Hid (Zx r k=_):=Je oM;rw[o.out] at A;go_wp2;go_ret;exact⟨⟨_,rfl,A⟩,d⟩
theorem TR (s:qO)(d:Nat)(q:Int)(w:World)(c:w.cell? (d,2)=some (int i64 q)) :
  Calls prog 281 #[.agg #[s.e,s.z],.pointer (some (d,0))] w λe w'=>e=.returned (.bool (s.e != q))/\Below w w w':=by
 have a:Below _ w (w.alloc (.cells #[s.e,s.z] 234)):=zd bZ _;have b:=Qc a;have c2:=(a.cell (Ja w _ c)).trans c;go_enter func281,ntmps281;go_upto_region 1 with fail;generalize w.alloc _=V at a b c2 ⊢;have c0:=bC b 0;go_wp2;go_ret;exact⟨rfl,a⟩
theorem TS (N:Option Addr)(n c:Nat)(S:Nat->qO)(q:Int)(r K:Nat)(w:World)(hn:n<=1048576)(hr:r<n)(R:(S r).e=q)(m:∀ j,j<n->(S j).e=q->j=r)(U:qC w N n S)(Q:w.cell? (K,2)=some (int i64 q)) :
  Calls prog 280 #[(N,n,c),.func (.func 281) #[] #[.pointer (some (K,0))]] w λe w'=>(∃ v,e=.returned v/\w'.ownsRow w 234 2 v (n - 1) (zL (ZG S r) (n - 1)))/\Below w w w':=by
 obtain⟨j0,ji,H,I,J⟩:=info_parts Tryz.infoSeat;have HX:=hI U;have L:=hI Q;have Z:=hI R;have HO:=hI m;clear U Q R m;go_enter func280,ntmps280;go_wp2;go_loopw [5,7,10] (λs5 _ i wr=>∃ k,k<=n/\i=int i64 k/\wr.ownsRow w 234 2 s5 (Zx r k) (zL (ZG S r) (Zx r k))/\Below w w wr) (λ_ _ i _=>n - (intOf i).toNat)
 case atStart=>exact⟨0,Jq _,rfl,World.ownsRow_nil _ _ _ _,bZ⟩
 case round =>
  obtain⟨k,hk,rfl,A,a⟩:=hrel
  by_cases hlt:k<n
  ·obtain⟨b,of,rfl,z,h1⟩:=HX k hlt
   obtain⟨s,x⟩:=nM (S k);rw[← x] at z h1;have t:=hI x;have X:=Ja w _ z;have c0:=tR a z X;have c1:=tR a h1 X;have d:=zd a (.cells #[s.e,s.z] 234);have l:=Jb wr (.cells #[s.e,s.z] 234);have f:=A.alloc (.cells #[s.e,s.z] 234);clear z h1 x A;go_upto_region 5 with fail;generalize wr.alloc _=V at d l f ⊢;generalize wr.heap.size=sx at l ⊢;clear c0 c1 a wr;have O:=bC l 0;have P:=bC l 1;go_wp2_with fail;clear O P;refine bM (TR s K q V ((d.cell (Ja w _ L)).trans L)) λW g=>?_
   replace d:=zb d g;replace l:=za l g;replace f:=zm g f;clear g V
   by_cases hkr:k=r
   ·have p:Hid (Zx r (k+1)=Zx r k):=by show _=_;unfold Zx;rw[Je oM,Jf oM];omega
    have hq:(s.e != q)=false:=by rw[t.out,hkr,Z.out];simp
    go_wp2;go_roundw
    case rel=>exact⟨k+1,by omega,by go_num,by rw[p.out];exact f,d⟩
    case measure=>simp[intOf];omega
   ·have p:Hid (Zx r (k+1)=Zx r k+1/\(ZG S r) (Zx r k)=s):=by
     rw[t.out];unfold Zx ZG
     by_cases h:k<=r
     ·rw[Jf oM,Jf h,Jf oM];exact⟨rfl,rfl⟩
     ·rw[Je oM,Je h,Je oM];exact⟨by omega,by rw[show k - 1+1=k by omega]⟩
    have hq:(s.e != q)=true:=by rw[t.out];simp;exact λh=>hkr (HO k hlt h)
    obtain⟨M,E⟩:=nM (Zx r k);have a0:M<=n:=by rw[E];unfold Zx;split <;> omega
    rw[← E] at f p;clear E;have O:=bC l 0;have P:=bC l 1;have y:=f.alloc (.cells #[s.e,s.z] 234);have B:Hid (∀ j u,([_,_]:List Value)[j]?=_->(W.alloc (.cells #[s.e,s.z] 234)).cell? _=_):=Jo (Jb W _);have o:w.heap.size<=(W.alloc (.cells #[s.e,s.z] 234)).heap.size:=(zd d _).size;go_wp2_with (first|(at_builtin;refine wpList_append_lies _ rfl _ _ 143 rfl _ 234 j0 _ 2 16 underlying143 ji H I J rfl dC _ _ _ (by rfl) y _ 1 1 _ rfl rfl B (by intro u T;simp at T;rcases T with rfl|rfl <;> rfl) dC (by unfold maxLen;omega) oM o _ rfl ?_;intro g3 D Y G F _ _))
    have C:Hid (Y.ownsRow w 234 2 (some (g3,0),M+1,D) (Zx r (k+1)) (zL (ZG S r) (Zx r (k+1)))):=by
     show Y.ownsRow _ _ _ _ _ _
     rw[p.1,AO,p.2];exact G
    go_roundw
    case rel=>exact⟨_,by omega,by go_num,C,(zd d _).grown F o (λj hj=>(y.lt j hj).1)⟩
    case measure=>simp[intOf];omega
  ·obtain rfl:k=n:=by omega
   have p:Hid (Zx r k=_):=Je oM;rw[p.out] at A;go_wp2;go_ret;exact⟨⟨_,rfl,A⟩,a⟩
def Ma (a b:Bool):List Value:=(if a=true then [int i64 0] else [])++(if b=true then [int i64 1] else [])++[int i64 2]
def Mb (p:ZP):Bool:=decide (¬ (p.f=0/\p.j=0))
def Mc (p:ZP):Bool:=decide (¬ (p.w=0/\p.h=false/\p.x=0))
theorem ke (a b:Bool):(Ma a b).length<=3:=by cases a <;> cases b <;> decide
theorem Md (p:ZP)(w:World) :
  Calls prog 251 #[.agg #[p.v,p.f,p.j,p.w,p.h,p.x]] w λe w'=>(∃ v,e=.returned v/\w'.ownsRow w 3 1 v (Ma (Mb p) (Mc p)).length (Ma (Mb p) (Mc p)))/\Below w w w':=by
 obtain⟨n0,M,x,y,z⟩:=info_parts Tryz.infoInt;obtain⟨a,K⟩:=nM (Mb p);obtain⟨b,L⟩:=nM (Mc p);have R:Hid (a=decide _):=K;have S:Hid (b=decide _):=L;rw[← K,← L];clear K L;have f:Below _ w (w.alloc (.cells #[p.v,p.f,p.j,p.w,p.h,p.x] 45)):=zd bZ _;have A:=Jb w (.cells #[p.v,p.f,p.j,p.w,p.h,p.x] 45);go_enter func251,ntmps251;go_wp2_with fail;generalize w.alloc _=V at f A ⊢;refine bM (Du _ _ _ _ _ _ V) λJ h=>?_
 rw[← R.out];replace f:=zb f h;replace A:=za A h;clear h V;go_upto_if 5 with fail;go_cut [3] (λN B=>B.ownsRow w 3 1 N (if a=true then [Value.int .i64 0] else []).length (if a=true then [Value.int .i64 0] else [])/\B.heap[w.heap.size]?=some (.cells #[p.v,p.f,p.j,p.w,p.h,p.x] 45 (0,0))/\Below w w B)
 case first =>
  have d:=f;have T:J.ownsRow w 3 1 _ 0 []:=World.ownsRow_nil _ _ _ _
  cases a with
  |false =>
   go_wp2;go_meet;exact⟨World.ownsRow_nil _ _ _ _,A,f⟩
  |true =>
   have i:=T.alloc (.cells #[()] 3);have n:Hid (∀ j u,[_][j]?=_->_):=Jo (cs:=#[()]) (t:=3) (fr:=(0,0)) (Jb J _);have c:w.heap.size<=(J.alloc (.cells #[()] 3)).heap.size:=(zd d _).size;go_wp2_with (first|(at_builtin;refine wpList_append_lies _ rfl _ _ 27 rfl _ 3 n0 _ 1 8 underlying27 M x y z rfl dC _ 0 [] (by rfl) i _ 1 1 _ rfl rfl n (by intro u s;simp at s;subst s;rfl) dC (by unfold maxLen;omega) oM c _ rfl ?_;intro g D Q o l _ _))
   go_meet;exact⟨o,(qY l).blk (zg A _) (λe=>by cases e),(zd f _).grown l c (λj E=>by cases E)⟩
 case rest =>
 obtain⟨m,C,k⟩:=hcut;obtain⟨G,q⟩:=nM ((if a=true then [Value.int .i64 0] else []));rw[← q] at m;have H:=hI q;have U:G.length<=1:=by rw[q];cases a <;> decide
 clear q f A;obtain⟨X,Y,Z,p3,p4,p5⟩:=Rz C;go_wp2_with fail;clear X Y Z p3 p4 p5;refine bM (Ar _ _ _ _ _ _ _) λP h=>?_
 rw[← S.out];replace k:=zb k h;replace m:=zm h m;clear h C;go_upto_if 10 with fail;go_cut [3] (λN B=>B.ownsRow w 3 1 N (G++(if b=true then [Value.int .i64 1] else [])).length (G++(if b=true then [Value.int .i64 1] else []))/\Below w w B)
 case first =>
  have d:=k
  cases b with
  |false =>
   go_wp2;go_meet;exact⟨by simpa using m,k⟩
  |true =>
   have i:=m.alloc (.cells #[int i64 1] 3);have n:Hid (∀ j u,[_][j]?=_->_):=Jo (cs:=#[int i64 1]) (t:=3) (fr:=(0,0)) (Jb P _);have c:w.heap.size<=(P.alloc (.cells #[int i64 1] 3)).heap.size:=(zd d _).size;go_wp2_with (first|(at_builtin;refine wpList_append_lies _ rfl _ _ 27 rfl _ 3 n0 _ 1 8 underlying27 M x y z rfl dC _ _ G (by rfl) i _ 1 1 _ rfl rfl n.out (by intro u s;simp at s;subst s;rfl) dC (by unfold maxLen;omega) oM c _ rfl ?_;intro g D Q o l _ _))
   go_meet;exact⟨by simpa using o,(zd k _).grown l c (λj E=>(i.lt j E).1)⟩
 case rest =>
 clear m k;obtain⟨F,d⟩:=hcut;obtain⟨O,r⟩:=nM (G++(if b=true then [Value.int .i64 1] else []));rw[← r] at F;have I:Hid (O++[int i64 2]=Ma a b):=by show _=_;rw[r,H.out];rfl
 have W:O.length<=2:=by rw[r,List.length_append];cases b <;> simp <;> omega
 clear r;have i:=F.alloc (.cells #[int i64 2] 3);have n:Hid (∀ j u,[_][j]?=_->_):=Jo (cs:=#[int i64 2]) (t:=3) (fr:=(0,0)) (Jb wc _);have c:w.heap.size<=(wc.alloc (.cells #[int i64 2] 3)).heap.size:=(zd d _).size;go_wp2_with (first|(at_builtin;refine wpList_append_lies _ rfl _ _ 27 rfl _ 3 n0 _ 1 8 underlying27 M x y z rfl dC _ _ O (by rfl) i _ 1 1 _ rfl rfl n (by intro u s;simp at s;subst s;rfl) dC (by unfold maxLen;omega) oM c _ rfl ?_;intro g D Q o l _ _))
 go_ret;rw[← I.out];exact⟨⟨_,rfl,by simpa using o⟩,(zd d _).grown l c (λj E=>(i.lt j E).1)⟩
theorem Gk (B:Option Addr)(n c:Nat)(p:zv)(F:Nat->Int)(x l s h:Int)(w:World)(E:p.n=n)(hn:n<=4)(M:zJ w B p) :
  Calls prog 264 #[(B,n,c),.agg #[(F 0),(F 1),(F 2),(F 3)],.agg #[x,l,s,h]] w λe w'=>qH (Kc p F ⟨x,l,s,h⟩) e/\Below w w w':=by
 have z:=hI E;clear E;go_enter func264,ntmps264;go_upto_region 1 with fail;have d:((w.alloc _).alloc (.cells #[x,l,s,h] 220)).heap[w.heap.size]?=some (.cells #[(F 0),(F 1),(F 2),(F 3)] 319 (0,0)):=zg (Jb w _) _;have f:=Kw d;have a:=lu d;generalize (w.alloc _).alloc _=W at d f a ⊢;have H:=zD d;have N:=zD f;have z0:=gC f 0;have z1:=gC f 1;have z2:=gC f 2;have z3:=gC f 3;have y:Hid (∀ m,m<4->∀ g:zy W,g.val.cell? (w.heap.size,m)=some (F m)):=by
  intro m G g;refine(g.o.cell H).trans ?_;have:m=0∨m=1∨m=2∨m=3:=oM
  rcases this with rfl|rfl|rfl|rfl
  ·exact bC d 0
  ·exact bC d 1
  ·exact bC d 2
  ·exact bC d 3
 clear d f H N;have L:IntKind.i64.wrap ((n:Int) - 1)=(n:Int) - 1:=by rw[Jk];omega
 by_cases h1:In x 1 9999
 ·have i:=Jd h1
  have q:=hI h1;clear h1
  by_cases h2:In s 1 2000/\In h 1 500
  ·have j:=Jd h2
   have o:=hI h2;clear h2
   by_cases h3:In l 0 ((n:Int) - 1)
   ·have k:=Jd h3
    have r:=hI h3;obtain⟨m,rfl⟩:∃ m:Nat,l=m:=⟨l.toNat,by unfold In at h3;omega⟩
    have G:m<n:=by unfold In at h3;omega
    clear h3;obtain⟨b,off,rfl,C,D⟩:=M m (by rw[z.out];exact G)
    have K:=Ja w _ C;have y2:=gW a D K;have y3:=y m oM;have i1:=n0 m;have i2:(m:Int)<(n:Int):=oM;have i3:(m:Int)<4:=oM;have i4:m<4:=oM;clear C D
    by_cases h4:h<=p.B m
    ·have I:=Jd h4
     have t:=hI h4;clear h4
     by_cases h5:s<=F m
     ·have J:=Jd h5
      have u:=hI h5;clear h5;refine ze kR kR ?_
      repeat(go_big_quiet_step ((first|(go_at_call 102;refine gE (v:=.bool true) (Z5 _ _) (by rw[i]))|(go_at_call 267;refine gE (v:=.bool true) (Bq _ _ _) (by rw[j]))|(go_at_call 191;refine gE (v:=.bool true) (zx _ _ _ _) (by rw[k])))))
      refine Jl ?_;rintro _ ⟨g,rfl⟩;go_wp2;go_ret;exact⟨zN ⟨q,o.1,o.2,by rw[z.out];exact r,t,u⟩,zb a g.o⟩
     ·have J:=Jc h5
      have u:=hI h5;clear h5;refine ze kR kR ?_
      repeat(go_big_quiet_step ((first|(go_at_call 102;refine gE (v:=.bool true) (Z5 _ _) (by rw[i]))|(go_at_call 267;refine gE (v:=.bool true) (Bq _ _ _) (by rw[j]))|(go_at_call 191;refine gE (v:=.bool true) (zx _ _ _ _) (by rw[k])))))
      refine Jl ?_;rintro _ ⟨g,rfl⟩;go_wp2;go_ret;exact⟨zh (λA=>Int.not_le.2 u A.room),zb a g.o⟩
    ·have I:=Jc h4
     have t:=hI h4;clear h4;refine ze kR kR ?_
     repeat(go_big_quiet_step ((first|(go_at_call 102;refine gE (v:=.bool true) (Z5 _ _) (by rw[i]))|(go_at_call 267;refine gE (v:=.bool true) (Bq _ _ _) (by rw[j]))|(go_at_call 191;refine gE (v:=.bool true) (zx _ _ _ _) (by rw[k])))))
     refine Jl ?_;rintro _ ⟨g,rfl⟩;go_wp2;go_ret;exact⟨zh (λA=>Int.not_le.2 t A.high),zb a g.o⟩
   ·have k:=Jc h3
    have r:=hI h3;clear h3;refine ze kR kR ?_
    repeat(go_big_quiet_step ((first|(go_at_call 102;refine gE (v:=.bool true) (Z5 _ _) (by rw[i]))|(go_at_call 267;refine gE (v:=.bool true) (Bq _ _ _) (by rw[j]))|(go_at_call 191;refine gE (v:=.bool false) (zx _ _ _ _) (by rw[k])))))
    refine Jl ?_;rintro _ ⟨g,rfl⟩;go_wp2;go_ret;exact⟨zh (λh=>r (by have:=h.ln;rw[z.out] at this;exact this)),zb a g.o⟩
  ·have j:=Jc h2
   have o:=hI h2;clear h2;refine ze kR kR ?_
   repeat(go_big_quiet_step ((first|(go_at_call 102;refine gE (v:=.bool true) (Z5 _ _) (by rw[i]))|(go_at_call 267;refine gE (v:=.bool false) (Bq _ _ _) (by rw[j])))))
   refine Jl ?_;rintro _ ⟨g,rfl⟩;go_wp2;go_ret;exact⟨zh (λh=>o ⟨h.f,h.j⟩),zb a g.o⟩
 ·have i:=Jc h1
  have q:=hI h1;clear h1;refine ze kR kR ?_
  repeat(go_big_quiet_step ((first|(go_at_call 102;refine gE (v:=.bool false) (Z5 _ _) (by rw[i])))))
  refine Jl ?_;rintro _ ⟨g,rfl⟩;go_wp2;go_ret;exact⟨zh (λh=>q h.e),zb a g.o⟩
section
open Go.RowKit Classical
def As (S:Nat->ql)(q:Int):Nat->Int
 |0=>-1
 |n+1=>if (S n).e=q then (S n).ln else As S q n
def QT (S:Nat->zU)(q:Int):Nat->Int
 |0=>-1
 |n+1=>if (S n).e=q then (S n).H else QT S q n
def IM (l:zw)(b:zA):Ao:=⟨b.k,b.j1,b.v,As l.K b.e l.r,QT l.I b.e l.m⟩
def jt (b:zA)(z:Int):Prop:=CB b/\Sa b z
noncomputable def ZU (l:zw)(S:Nat->zA)(z:Int):Nat->List Ao
 |0=>[]
 |n+1=>if jt (S n) z then ZU l S z n++[IM l (S n)] else ZU l S z n
theorem FF {l:zw}{S:Nat->zA}{z:Int}{n:Nat}(h:jt (S n) z):ZU l S z (n+1)=ZU l S z n++[IM l (S n)]:=by rw[ZU,Jf h]
theorem Ed {l:zw}{S:Nat->zA}{z:Int}{n:Nat}(h:¬ jt (S n) z):ZU l S z (n+1)=ZU l S z n:=by rw[ZU,Je h]
theorem PS (l:zw)(S:Nat->zA)(z:Int)(n:Nat):(ZU l S z n).length<=n:=by
 induction n with
 |zero=>exact Jr _
 |succ n ih =>
  by_cases h:jt (S n) z
  ·rw[FF h,List.length_append];simp;omega
  ·rw[Ed h];omega
def BS (l:List Ao)(j:Nat):Ao:=l.getD j Ao.zero
theorem Ot (l:List Ao)(r:Ao):Zh (BS (l++[r])) (l.length+1)=Zh (BS l) l.length++[int i64 r.k,.string r.j1,int i64 r.v,int i64 r.ln,int i64 r.H]:=by
 rw[BE];have a:BS (l++[r]) l.length=r:=by simp[BS]
 have b:Zh (BS (l++[r])) _=Zh (BS l) _:=DO (λi c=>by unfold BS;rw[List.getD_eq_getElem?_getD,List.getD_eq_getElem?_getD,List.getElem?_append_left c])
 rw[a,b]
end
theorem az (pe len hei cl:Int)(all:Bool)(be:Int)(w:World) :
  (binOp .eql 45 (.agg #[pe,len,hei,cl,all,be]) (.agg #[(),(),(),(),.bool false,()])).run prog w=.ok (.bool (PZ pe len hei cl all be)) w:=by
 unfold PZ Fy
 by_cases h1:pe=0
 ·subst h1
  by_cases h2:len=0
  ·subst h2
   by_cases h3:hei=0
   ·subst h3
    by_cases h4:cl=0
    ·subst h4
     cases all with
     |false =>
      by_cases h5:be=0
      ·subst h5
       go_simp
      ·go_simp
     |true=>go_simp
    ·go_simp
   ·go_simp
  ·go_simp
 ·go_simp
theorem CJ (pe len hei cl:Int)(all:Bool)(be:Int)(w:World) :
  Calls prog 240 #[.agg #[pe,len,hei,cl,all,be]] w λe w'=>e=.returned (.bool (decide (Zc ⟨pe,len,hei,cl,all,be⟩)))/\Below w w w':=by
 refine(QX pe len hei cl all be w).mono ?_;rintro e w' ⟨⟨b,rfl,a⟩,c⟩;refine⟨?_,c⟩
 congr 2
 rw[Bool.eq_iff_iff,a,decide_eq_true_eq]
theorem SQ (s:ByteArray):(if Ap k then decide (Z7 s) else s.toList.isEmpty)=decide (AH k s):=by
 by_cases c:k=2∨k=3∨k=7
 ·have e:Ap k=true:=Jd c
  rw[e,Jf rfl];have c2:(k:Int)=2∨(k:Int)=3∨(k:Int)=7:=oM;rw[Bool.eq_iff_iff,decide_eq_true_eq,decide_eq_true_eq];unfold AH;rw[Jf c2]
 ·have e:Ap k=false:=Jc c
  rw[e,Iv s (show ¬ ((k:Int)=2∨(k:Int)=3∨(k:Int)=7) by omega)]
  rfl
theorem bc (n:Int):(if Q8 k then decide (In n 1 30) else (n == 0))=decide (Bv k n):=by
 by_cases c:4<=k/\k<=8
 ·have e:Q8 k=true:=Jd c
  have c2:In (k:Int) 4 8:=⟨by omega,by omega⟩
  rw[e,Jf rfl,Bool.eq_iff_iff,decide_eq_true_eq,decide_eq_true_eq];unfold Bv;rw[Jf c2]
 ·have e:Q8 k=false:=Jc c
  rw[e,MX n (show ¬ In (k:Int) 4 8 by unfold In;omega)]
  rfl
theorem bd (n:Nat):(if decide (0<ZL k) then decide (In (n:Int) 1 (ZL k)) else ((n:Int) == 0))=decide (Zj k n):=by
 by_cases c:k=1∨k=2∨k=3∨k=5
 ·have e:ZL k=3:=Jf c
  have c2:zM (k:Int):=by unfold zM;omega
  rw[e,show decide _=true from rfl,Jf rfl,Bool.eq_iff_iff,decide_eq_true_eq,decide_eq_true_eq];unfold Zj In;rw[Jf c2]
  omega
 ·have c2:¬ zM (k:Int):=by unfold zM;omega
  by_cases c9:k=9
  ·have e:ZL k=1:=by unfold ZL;rw[Je c,Jf c9]
   rw[e,show decide _=true from rfl,Jf rfl,Bool.eq_iff_iff,decide_eq_true_eq,decide_eq_true_eq];unfold Zj In;rw[Je c2,Jf oM]
   omega
  ·have e:ZL k=0:=by unfold ZL;rw[Je c,Je c9]
   rw[e,show decide _=false from rfl,Je dC,PC,Bool.eq_iff_iff,decide_eq_true_eq,decide_eq_true_eq];unfold Zj;rw[Je c2,Je oM]
theorem SR {q:Bool}{p:ZP}(h:q=true↔Zc p):(if QI k then q else PZ p.v p.f p.j p.w p.h p.x)=decide (Zr k p):=by
 by_cases c:k=1∨k=2∨k=3∨k=5
 ·have e:QI k=true:=Jd c
  rw[e,Jf rfl];exact(KX (show zM (k:Int) by unfold zM;omega) h).symm
 ·have e:QI k=false:=Jc c
  rw[e,Je dC];exact KY (show ¬ zM (k:Int) by unfold zM;omega)
theorem SS (u:Int):(if Bi k then decide (In u 0 10000) else (u == 0))=decide (AT k u):=by
 by_cases c:k=2
 ·have e:Bi k=true:=Jd c
  rw[e,Jf rfl,Bool.eq_iff_iff,decide_eq_true_eq,decide_eq_true_eq];unfold AT In
  omega
 ·have e:Bi k=false:=Jc c
  rw[e,Je dC,Bool.eq_iff_iff,beq_iff_eq,decide_eq_true_eq];unfold AT
  omega
theorem ip (u:Int):(if GN k then decide (In u 0 10000) else (u == 0))=decide (DZ k u):=by
 by_cases c:k=6∨k=8
 ·have e:GN k=true:=Jd c
  rw[e,Jf rfl,Bool.eq_iff_iff,decide_eq_true_eq,decide_eq_true_eq];unfold DZ In
  omega
 ·have e:GN k=false:=Jc c
  rw[e,Je dC,Bool.eq_iff_iff,beq_iff_eq,decide_eq_true_eq];unfold DZ
  omega
theorem EC (cs:List Value)(x:qD)(w:World)(J:x.j1.size<=1000000000000000)(h:qD.Is w cs x)(hF:Ze w) :
  Calls prog 194 #[.agg cs.toArray] w λe w'=>e=.returned (.bool (decide (QE x)))/\Below w w w':=by
 obtain⟨H,I,rfl,_,_⟩:=h;obtain⟨V,hV⟩:=nM (decide (QE x));rw[← hV];have C:Hid (V=true↔QE x):=by show V=true↔QE x;rw[hV,decide_eq_true_eq]
 clear hV;have a:Hid (Ze w):=hF;clear hF;have qP:=az x.v x.f x.j x.w x.h x.x;have c:Below w w (w.alloc (.cells (x,H,I) 47)):=zd bZ _;have b0:=Jb w (.cells (x,H,I) 47);go_enter func194,ntmps194;go_wp2_with fail;generalize w.alloc (.cells (x,H,I) 47)=W at c b0 ⊢;obtain⟨t0,K⟩:=nM (decide (In x.d 1 9));have G:Hid (t0=true↔In x.d 1 9):=by show t0=true↔In x.d 1 9;rw[K,decide_eq_true_eq]
 refine(zx _ _ _ _).mono ?_;rw[← K];clear K;rintro e v ⟨rfl,hv⟩;have hv:=hv.symm;subst hv
 cases t0 with
 |false =>
  have m:Hid (V=false):=Bool.eq_false_iff.2 (λh=>by have:=G.2 (C.1 h).1;cases this)
  go_wp2;go_ret;exact⟨by rw[m.out];rfl,c⟩
 |true =>
 have E:Hid (In x.d 1 9):=G.1 rfl;obtain⟨k,hk⟩:∃ k:Nat,x.d=(k:Int):=⟨x.d.toNat,by have:=E.1;omega⟩
 have r:Hid (x.d=(k:Int)):=hk;have a9:1<=k/\k<=9:=by have:=E.out;unfold In at this;omega
 clear G;have t0:W.cell? (9,k*7)=some (.bool (Ap k)):=(c.cell (p:=(9,k*7)) a.lt).trans (a k oM).1;have t1:W.cell? (9,k*7+1)=some (.bool (Q8 k)):=(c.cell (p:=(9,k*7+1)) a.lt).trans (a k oM).2.1;have t2:W.cell? (9,k*7+2)=some (ZL k):=(c.cell (p:=(9,k*7+2)) a.lt).trans (a k oM).2.2.1;have t3:W.cell? (9,k*7+3)=some (.bool (QI k)):=(c.cell (p:=(9,k*7+3)) a.lt).trans (a k oM).2.2.2.1;have t4:W.cell? (9,k*7+4)=some (.bool (Bi k)):=(c.cell (p:=(9,k*7+4)) a.lt).trans (a k oM).2.2.2.2.1;have t5:W.cell? (9,k*7+5)=some (.bool (GN k)):=(c.cell (p:=(9,k*7+5)) a.lt).trans (a k oM).2.2.2.2.2.1;have t6:W.cell? (9,k*7+6)=some (.bool (Dp k)):=(c.cell (p:=(9,k*7+6)) a.lt).trans (a k oM).2.2.2.2.2.2;have y0:W.cell? (w.heap.size,0)=some (k:Int):=by rw[← hk];exact bC b0 0
 have a7:=n0 k;have a8:(k:Int)<10:=oM;have b:=zg b0 (.cells #[.bool (Ap k),.bool (Q8 k),(ZL k),.bool (QI k),.bool (Bi k),.bool (GN k),.bool (Dp k)] 263);have d:=Jb W (.cells #[.bool (Ap k),.bool (Q8 k),(ZL k),.bool (QI k),.bool (Bi k),.bool (GN k),.bool (Dp k)] 263);have j:=zd c (.cells #[.bool (Ap k),.bool (Q8 k),(ZL k),.bool (QI k),.bool (Bi k),.bool (GN k),.bool (Dp k)] 263);clear hk;go_upto_region 4 with fail;generalize hFx:W.heap.size=Fx at d ⊢;generalize W.alloc (.cells #[.bool (Ap k),.bool (Q8 k),(ZL k),.bool (QI k),.bool (Bi k),.bool (GN k),.bool (Dp k)] 263)=W1 at j b d ⊢;clear y0 t0 t1 t2 t3 t4 t5 t6 a7 a8 c b0 hFx;have lO:=zD b;have lF:=zD d;have z1:=gC b 1;have z2:=gC b 2;have z3:=gC b 3;have z4:=gC b 4;have z5:=gC b 5;have z6:=gC b 6;have z7:=gC b 7;have z8:=gC b 8;have z9:=gC b 9;have b1:=gC b 10;have b2:=gC b 11;have f0:=gC d 0;have f1:=gC d 1;have f2:=gC d 2;have f3:=gC d 3;have f4:=gC d 4;have f5:=gC d 5;obtain⟨f,T⟩:∃ t,decide (Z7 x.j1)=t:=⟨_,rfl⟩;have i:Hid (decide (Z7 x.j1)=f):=T;obtain⟨l,U⟩:∃ t,decide (In x.k 1 30)=t:=⟨_,rfl⟩;have n:Hid (decide (In x.k 1 30)=l):=U;obtain⟨o,X⟩:∃ t,decide (In (x.c:Int) 1 (ZL k))=t:=⟨_,rfl⟩;have s:Hid (decide (In (x.c:Int) 1 (ZL k))=o):=X;obtain⟨q,Y⟩:∃ t,decide (Zc ⟨x.v,x.f,x.j,x.w,x.h,x.x⟩)=t:=⟨_,rfl⟩;have u:Hid (decide (Zc ⟨x.v,x.f,x.j,x.w,x.h,x.x⟩)=q):=Y;obtain⟨y,Z⟩:∃ t,decide (In x.y 0 10000)=t:=⟨_,rfl⟩;have z:Hid (decide (In x.y 0 10000)=y):=Z;obtain⟨A,a0⟩:∃ t,decide (In x.D 0 10000)=t:=⟨_,rfl⟩;have F:Hid (decide (In x.D 0 10000)=A):=a0;clear T U X Y Z a0 b d;have N:Hid ((if Ap k then f else x.j1.toList.isEmpty)=true↔AH x.d x.j1):=by
  show(if Ap k then f else x.j1.toList.isEmpty)=true↔AH x.d x.j1
  rw[← i.out,SQ x.j1,decide_eq_true_eq,r.out]
 have O:Hid ((if Q8 k then l else (x.k == 0))=true↔Bv x.d x.k):=by
  show(if Q8 k then l else (x.k == 0))=true↔Bv x.d x.k
  rw[← n.out,bc x.k,decide_eq_true_eq,r.out]
 have P:Hid ((if decide (0<ZL k) then o else ((x.c:Int) == 0))=true↔Zj x.d x.c):=by
  show(if decide (0<ZL k) then o else ((x.c:Int) == 0))=true↔Zj x.d x.c
  rw[← s.out,bd x.c,decide_eq_true_eq,r.out]
 have Q:Hid ((if QI k then q else (PZ x.v x.f x.j x.w x.h x.x))=true↔Zr x.d x.p):=by
  show(if QI k then q else (PZ x.v x.f x.j x.w x.h x.x))=true↔Zr x.d x.p
  have h3:(if QI k then q else PZ x.v x.f x.j x.w x.h x.x)=decide (Zr (k:Int) x.p):=SR (p:=x.p) (show q=true↔Zc x.p by rw[← u.out,decide_eq_true_eq];exact Iff.rfl)
  rw[h3,decide_eq_true_eq,r.out]
 have R:Hid ((if Bi k then y else (x.y == 0))=true↔AT x.d x.y):=by
  show(if Bi k then y else (x.y == 0))=true↔AT x.d x.y
  rw[← z.out,SS x.y,decide_eq_true_eq,r.out]
 have S:Hid ((if GN k then A else (x.D == 0))=true↔DZ x.d x.D):=by
  show(if GN k then A else (x.D == 0))=true↔DZ x.d x.D
  rw[← F.out,ip x.D,decide_eq_true_eq,r.out]
 by_cases p0:AH x.d x.j1
 case neg =>
  have B:Hid ((if Ap k then f else x.j1.toList.isEmpty)=false):=Bool.eq_false_iff.2 (λh=>p0 (N.1 h))
  have m:Hid (V=false):=Bool.eq_false_iff.2 (λh=>p0 (C.1 h).2.1)
  clear p0;refine ze kR kR ?_;simp only[List.append_eq,List.cons_append,List.nil_append]
  repeat(go_big_quiet_step (first|(go_at_call 239;with_reducible refine gE (v:=.bool f) (Zk x.j1 _ J) (by rw[i.out]))|(go_at_call 241;with_reducible refine gE (v:=.bool false) (zR (Ap k) f x.j1.toList.isEmpty _) (by rw[B.out]))))
  refine Jl ?_;rintro _ ⟨g,rfl⟩;go_wp2;go_ret;exact⟨by rw[m.out];rfl,zb j g.o⟩
 have B:Hid ((if Ap k then f else x.j1.toList.isEmpty)=true):=N.2 p0;have a1:Hid (AH x.d x.j1):=p0;clear p0
 by_cases p1:Bv x.d x.k
 case neg =>
  have D:Hid ((if Q8 k then l else (x.k == 0))=false):=Bool.eq_false_iff.2 (λh=>p1 (O.1 h))
  have m:Hid (V=false):=Bool.eq_false_iff.2 (λh=>p1 (C.1 h).2.2.1)
  clear p1;refine ze kR kR ?_;simp only[List.append_eq,List.cons_append,List.nil_append]
  repeat(go_big_quiet_step (first|(go_at_call 239;with_reducible refine gE (v:=.bool f) (Zk x.j1 _ J) (by rw[i.out]))|(go_at_call 191;with_reducible refine gE (v:=.bool l) (zx x.k 1 30 _) (by rw[n.out]))|(go_at_call 241;with_reducible refine gE (v:=.bool true) (zR (Ap k) f x.j1.toList.isEmpty _) (by rw[B.out]))|(go_at_call 241;with_reducible refine gE (v:=.bool false) (zR (Q8 k) l (x.k == 0) _) (by rw[D.out]))))
  refine Jl ?_;rintro _ ⟨g,rfl⟩;go_wp2;go_ret;exact⟨by rw[m.out];rfl,zb j g.o⟩
 have D:Hid ((if Q8 k then l else (x.k == 0))=true):=O.2 p1;have a2:Hid (Bv x.d x.k):=p1;clear p1
 by_cases p2:Zj x.d x.c
 case neg =>
  have L:Hid ((if decide (0<ZL k) then o else ((x.c:Int) == 0))=false):=Bool.eq_false_iff.2 (λh=>p2 (P.1 h))
  have m:Hid (V=false):=Bool.eq_false_iff.2 (λh=>p2 (C.1 h).2.2.2.1)
  clear p2;refine ze kR kR ?_;simp only[List.append_eq,List.cons_append,List.nil_append]
  repeat(go_big_quiet_step (first|(go_at_call 239;with_reducible refine gE (v:=.bool f) (Zk x.j1 _ J) (by rw[i.out]))|(go_at_call 191;with_reducible refine gE (v:=.bool l) (zx x.k 1 30 _) (by rw[n.out]))|(go_at_call 191;with_reducible refine gE (v:=.bool o) (zx (x.c:Int) 1 (ZL k) _) (by rw[s.out]))|(go_at_call 241;with_reducible refine gE (v:=.bool true) (zR (Ap k) f x.j1.toList.isEmpty _) (by rw[B.out]))|(go_at_call 241;with_reducible refine gE (v:=.bool true) (zR (Q8 k) l (x.k == 0) _) (by rw[D.out]))|(go_at_call 241;with_reducible refine gE (v:=.bool false) (zR (decide (0<ZL k)) o ((x.c:Int) == 0) _) (by rw[L.out]))))
  refine Jl ?_;rintro _ ⟨g,rfl⟩;go_wp2;go_ret;exact⟨by rw[m.out];rfl,zb j g.o⟩
 have L:Hid ((if decide (0<ZL k) then o else ((x.c:Int) == 0))=true):=P.2 p2;have a3:Hid (Zj x.d x.c):=p2;clear p2
 by_cases p3:Zr x.d x.p
 case neg =>
  have M:Hid ((if QI k then q else (PZ x.v x.f x.j x.w x.h x.x))=false):=Bool.eq_false_iff.2 (λh=>p3 (Q.1 h))
  have m:Hid (V=false):=Bool.eq_false_iff.2 (λh=>p3 (C.1 h).2.2.2.2.1)
  clear p3;refine ze kR kR ?_;simp only[List.append_eq,List.cons_append,List.nil_append]
  repeat(go_big_quiet_step (first|(go_at_call 239;with_reducible refine gE (v:=.bool f) (Zk x.j1 _ J) (by rw[i.out]))|(go_at_call 191;with_reducible refine gE (v:=.bool l) (zx x.k 1 30 _) (by rw[n.out]))|(go_at_call 191;with_reducible refine gE (v:=.bool o) (zx (x.c:Int) 1 (ZL k) _) (by rw[s.out]))|(go_at_call 240;with_reducible refine gF (v:=.bool q) (CJ x.v x.f x.j x.w x.h x.x _) (by rw[u.out]))|(go_at_call 241;with_reducible refine gE (v:=.bool true) (zR (Ap k) f x.j1.toList.isEmpty _) (by rw[B.out]))|(go_at_call 241;with_reducible refine gE (v:=.bool true) (zR (Q8 k) l (x.k == 0) _) (by rw[D.out]))|(go_at_call 241;with_reducible refine gE (v:=.bool true) (zR (decide (0<ZL k)) o ((x.c:Int) == 0) _) (by rw[L.out]))|(go_at_call 241;with_reducible refine gE (v:=.bool false) (zR (QI k) q (PZ x.v x.f x.j x.w x.h x.x) _) (by rw[M.out]))))
  refine Jl ?_;rintro _ ⟨g,rfl⟩;go_wp2;go_ret;exact⟨by rw[m.out];rfl,zb j g.o⟩
 have M:Hid ((if QI k then q else (PZ x.v x.f x.j x.w x.h x.x))=true):=Q.2 p3;have a4:Hid (Zr x.d x.p):=p3;clear p3
 by_cases p4:AT x.d x.y
 case neg =>
  have D4:Hid ((if Bi k then y else (x.y == 0))=false):=Bool.eq_false_iff.2 (λh=>p4 (R.1 h))
  have m:Hid (V=false):=Bool.eq_false_iff.2 (λh=>p4 (C.1 h).2.2.2.2.2.1)
  clear p4;refine ze kR kR ?_;simp only[List.append_eq,List.cons_append,List.nil_append]
  repeat(go_big_quiet_step (first|(go_at_call 239;with_reducible refine gE (v:=.bool f) (Zk x.j1 _ J) (by rw[i.out]))|(go_at_call 191;with_reducible refine gE (v:=.bool l) (zx x.k 1 30 _) (by rw[n.out]))|(go_at_call 191;with_reducible refine gE (v:=.bool o) (zx (x.c:Int) 1 (ZL k) _) (by rw[s.out]))|(go_at_call 240;with_reducible refine gF (v:=.bool q) (CJ x.v x.f x.j x.w x.h x.x _) (by rw[u.out]))|(go_at_call 242;with_reducible refine gE (v:=.bool y) (Qw x.y _) (by rw[z.out]))|(go_at_call 241;with_reducible refine gE (v:=.bool true) (zR (Ap k) f x.j1.toList.isEmpty _) (by rw[B.out]))|(go_at_call 241;with_reducible refine gE (v:=.bool true) (zR (Q8 k) l (x.k == 0) _) (by rw[D.out]))|(go_at_call 241;with_reducible refine gE (v:=.bool true) (zR (decide (0<ZL k)) o ((x.c:Int) == 0) _) (by rw[L.out]))|(go_at_call 241;with_reducible refine gE (v:=.bool true) (zR (QI k) q (PZ x.v x.f x.j x.w x.h x.x) _) (by rw[M.out]))|(go_at_call 241;with_reducible refine gE (v:=.bool false) (zR (Bi k) y (x.y == 0) _) (by rw[D4.out]))))
  refine Jl ?_;rintro _ ⟨g,rfl⟩;go_wp2;go_ret;exact⟨by rw[m.out];rfl,zb j g.o⟩
 have D4:Hid ((if Bi k then y else (x.y == 0))=true):=R.2 p4;have a5:Hid (AT x.d x.y):=p4;clear p4
 by_cases p5:DZ x.d x.D
 case neg =>
  have D5:Hid ((if GN k then A else (x.D == 0))=false):=Bool.eq_false_iff.2 (λh=>p5 (S.1 h))
  have m:Hid (V=false):=Bool.eq_false_iff.2 (λh=>p5 (C.1 h).2.2.2.2.2.2)
  clear p5;refine ze kR kR ?_;simp only[List.append_eq,List.cons_append,List.nil_append]
  repeat(go_big_quiet_step (first|(go_at_call 239;with_reducible refine gE (v:=.bool f) (Zk x.j1 _ J) (by rw[i.out]))|(go_at_call 191;with_reducible refine gE (v:=.bool l) (zx x.k 1 30 _) (by rw[n.out]))|(go_at_call 191;with_reducible refine gE (v:=.bool o) (zx (x.c:Int) 1 (ZL k) _) (by rw[s.out]))|(go_at_call 240;with_reducible refine gF (v:=.bool q) (CJ x.v x.f x.j x.w x.h x.x _) (by rw[u.out]))|(go_at_call 242;with_reducible refine gE (v:=.bool y) (Qw x.y _) (by rw[z.out]))|(go_at_call 242;with_reducible refine gE (v:=.bool A) (Qw x.D _) (by rw[F.out]))|(go_at_call 241;with_reducible refine gE (v:=.bool true) (zR (Ap k) f x.j1.toList.isEmpty _) (by rw[B.out]))|(go_at_call 241;with_reducible refine gE (v:=.bool true) (zR (Q8 k) l (x.k == 0) _) (by rw[D.out]))|(go_at_call 241;with_reducible refine gE (v:=.bool true) (zR (decide (0<ZL k)) o ((x.c:Int) == 0) _) (by rw[L.out]))|(go_at_call 241;with_reducible refine gE (v:=.bool true) (zR (QI k) q (PZ x.v x.f x.j x.w x.h x.x) _) (by rw[M.out]))|(go_at_call 241;with_reducible refine gE (v:=.bool true) (zR (Bi k) y (x.y == 0) _) (by rw[D4.out]))|(go_at_call 241;with_reducible refine gE (v:=.bool false) (zR (GN k) A (x.D == 0) _) (by rw[D5.out]))))
  refine Jl ?_;rintro _ ⟨g,rfl⟩;go_wp2;go_ret;exact⟨by rw[m.out];rfl,zb j g.o⟩
 have D5:Hid ((if GN k then A else (x.D == 0))=true):=S.2 p5;have a6:Hid (DZ x.d x.D):=p5;clear p5;have m:Hid (V=true):=C.2 ⟨E,a1,a2,a3,a4,a5,a6⟩;refine ze kR kR ?_;simp only[List.append_eq,List.cons_append,List.nil_append]
 repeat(go_big_quiet_step (first|(go_at_call 239;with_reducible refine gE (v:=.bool f) (Zk x.j1 _ J) (by rw[i.out]))|(go_at_call 191;with_reducible refine gE (v:=.bool l) (zx x.k 1 30 _) (by rw[n.out]))|(go_at_call 191;with_reducible refine gE (v:=.bool o) (zx (x.c:Int) 1 (ZL k) _) (by rw[s.out]))|(go_at_call 240;with_reducible refine gF (v:=.bool q) (CJ x.v x.f x.j x.w x.h x.x _) (by rw[u.out]))|(go_at_call 242;with_reducible refine gE (v:=.bool y) (Qw x.y _) (by rw[z.out]))|(go_at_call 242;with_reducible refine gE (v:=.bool A) (Qw x.D _) (by rw[F.out]))|(go_at_call 241;with_reducible refine gE (v:=.bool true) (zR (Ap k) f x.j1.toList.isEmpty _) (by rw[B.out]))|(go_at_call 241;with_reducible refine gE (v:=.bool true) (zR (Q8 k) l (x.k == 0) _) (by rw[D.out]))|(go_at_call 241;with_reducible refine gE (v:=.bool true) (zR (decide (0<ZL k)) o ((x.c:Int) == 0) _) (by rw[L.out]))|(go_at_call 241;with_reducible refine gE (v:=.bool true) (zR (QI k) q (PZ x.v x.f x.j x.w x.h x.x) _) (by rw[M.out]))|(go_at_call 241;with_reducible refine gE (v:=.bool true) (zR (Bi k) y (x.y == 0) _) (by rw[D4.out]))|(go_at_call 241;with_reducible refine gE (v:=.bool true) (zR (GN k) A (x.D == 0) _) (by rw[D5.out]))))
 refine Jl ?_;rintro _ ⟨g,rfl⟩;go_wp2;go_ret;exact⟨by rw[m.out];rfl,zb j g.o⟩
theorem QU (x:Int)(w:World) :
  Calls prog 232 #[x] w λe w'=>e=.returned (.bool (decide (In x 1 99)))/\w'=w:=by
 go_enter func232,ntmps232;go_wp2_with (first|(go_at_call 191;refine(zx _ _ _ _).mono ?_;rintro e w' ⟨rfl,rfl⟩))
 go_ret;exact⟨rfl,rfl⟩
theorem Qa (a b:ByteArray)(w:World)(i:a.size<=1000000000000000)(k:b.size<=1000000000000000) :
  Calls prog 233 #[a,b] w λe w'=>e=.returned (.bool (decide (Ek a b)))/\w'=w:=by
 obtain⟨c,j⟩:=nM (decide (Ek a b));rw[← j];have g:=hI j;clear j
 by_cases n1:Z7 a
 ·have l:=Jd n1
  by_cases n2:Z7 b
  ·have m:=Jd n2
   by_cases n3:a=b
   ·subst n3
    have n:(a.toList == a.toList)=true:=Fa.2 rfl;have f:Hid (¬ Ek a a):=λh=>h.2.2 rfl
    clear n1 n2;go_enter func233,ntmps233;go_wp2_with (first|(go_at_call 239;refine bM (Zk _ _ i) λw' d=>?_;have d:=d.symm;subst d))
    go_ret;exact⟨by rw[g.out,Jc f.out];rfl,rfl⟩
   ·have n:=Gu.2 n3
    have f:Hid (Ek a b):=⟨n1,n2,n3⟩;clear n1 n2 n3;go_enter func233,ntmps233;go_wp2_with fail;refine bM (Zk _ _ i) λw' d=>?_
    have d:=d.symm;subst d;go_wp2_with fail;refine bM (Zk _ _ k) λw' d=>?_
    have d:=d.symm;subst d;go_wp2;go_ret;exact⟨by rw[g.out,Jd f.out];rfl,rfl⟩
  ·have m:=Jc n2
   have f:Hid (¬ Ek a b):=λh=>n2 h.2.1
   clear n1 n2;go_enter func233,ntmps233;go_wp2_with fail;refine bM (Zk _ _ i) λw' d=>?_
   have d:=d.symm;subst d;go_wp2_with fail;refine bM (Zk _ _ k) λw' d=>?_
   have d:=d.symm;subst d;go_wp2;go_ret;exact⟨by rw[g.out,Jc f.out];rfl,rfl⟩
 ·have l:=Jc n1
  have f:Hid (¬ Ek a b):=λh=>n1 h.1
  clear n1;go_enter func233,ntmps233;go_wp2_with fail;refine bM (Zk _ _ i) λw' d=>?_
  have d:=d.symm;subst d;go_wp2;go_ret;exact⟨by rw[g.out,Jc f.out];rfl,rfl⟩

theorem AZ (x d a mo:Int)(fr tt:ByteArray)(lo s:Option Addr)(n m c1 c2:Nat)(k l:zv)(w:World)(F:k.n=n)(G:l.n=m)(f:fr.size<=1000000000000000)(g:tt.size<=1000000000000000)(O:n<=1048576)(N:m<=1048576)(P:zJ w lo k)(Q:zJ w s l) :
  Calls prog 177 #[.agg #[x,fr,tt,d,a,(lo,n,c1),(s,m,c2),mo]] w λe w'=>qH (Ql ⟨x,fr,tt,d,a,k,l,mo⟩) e/\Below w w w':=by
 have c:Below _ w (w.alloc (.cells #[x,fr,tt,d,a,(lo,n,c1),(s,m,c2),mo] 140)):=zd bZ _;have C:=Jb w (.cells #[x,fr,tt,d,a,(lo,n,c1),(s,m,c2),mo] 140);have I:=hI F;have J:=hI G;clear F G
 by_cases g1:In x 1 99
 case neg =>
  have v:=by exact Jc g1
  have i:Hid (¬ Ql ⟨x,fr,tt,d,a,k,l,mo⟩):=λh=>g1 h.1
  clear g1;go_enter func177,ntmps177;go_wp2_with (first|(go_at_call 232;refine bM (QU _ _) λw' b=>?_;have b:=b.symm;subst b)|(go_at_call 233;refine bM (Qa _ _ _ f g) λw' b=>?_;have b:=b.symm;subst b)|(go_at_call 191;refine bM (zx _ _ _ _) λw' b=>?_;have b:=b.symm;subst b))
  go_ret;exact⟨zh i,c⟩
 have v:=by exact Jd g1
 by_cases g2:Ek fr tt
 case neg =>
  have y:=by exact Jc g2
  have i:Hid (¬ Ql ⟨x,fr,tt,d,a,k,l,mo⟩):=λh=>g2 ⟨h.2.1,h.2.2.1,h.2.2.2.1⟩
  clear g1 g2;go_enter func177,ntmps177;go_wp2_with (first|(go_at_call 232;refine bM (QU _ _) λw' b=>?_;have b:=b.symm;subst b)|(go_at_call 233;refine bM (Qa _ _ _ f g) λw' b=>?_;have b:=b.symm;subst b)|(go_at_call 191;refine bM (zx _ _ _ _) λw' b=>?_;have b:=b.symm;subst b))
  go_ret;exact⟨zh i,c⟩
 have y:=by exact Jd g2
 by_cases g3:0<=d
 case neg =>
  have z:decide (0<=d)=false:=by simpa using g3
  have i:Hid (¬ Ql ⟨x,fr,tt,d,a,k,l,mo⟩):=λh=>g3 h.2.2.2.2.1
  clear g1 g2 g3;go_enter func177,ntmps177;go_wp2_with (first|(go_at_call 232;refine bM (QU _ _) λw' b=>?_;have b:=b.symm;subst b)|(go_at_call 233;refine bM (Qa _ _ _ f g) λw' b=>?_;have b:=b.symm;subst b)|(go_at_call 191;refine bM (zx _ _ _ _) λw' b=>?_;have b:=b.symm;subst b))
  go_ret;exact⟨zh i,c⟩
 have z:decide (0<=d)=true:=by simpa using g3
 by_cases g4:d<a
 case neg =>
  have A:decide (d<a)=false:=by simpa using g4
  have i:Hid (¬ Ql ⟨x,fr,tt,d,a,k,l,mo⟩):=λh=>g4 h.2.2.2.2.2.1
  clear g1 g2 g3 g4;go_enter func177,ntmps177;go_wp2_with (first|(go_at_call 232;refine bM (QU _ _) λw' b=>?_;have b:=b.symm;subst b)|(go_at_call 233;refine bM (Qa _ _ _ f g) λw' b=>?_;have b:=b.symm;subst b)|(go_at_call 191;refine bM (zx _ _ _ _) λw' b=>?_;have b:=b.symm;subst b))
  go_ret;exact⟨zh i,c⟩
 have A:decide (d<a)=true:=by simpa using g4
 by_cases g5:a<=10000
 case neg =>
  have B:decide (a<=10000)=false:=by simpa using g5
  have i:Hid (¬ Ql ⟨x,fr,tt,d,a,k,l,mo⟩):=λh=>g5 h.2.2.2.2.2.2.1
  clear g1 g2 g3 g4 g5;go_enter func177,ntmps177;go_wp2_with (first|(go_at_call 232;refine bM (QU _ _) λw' b=>?_;have b:=b.symm;subst b)|(go_at_call 233;refine bM (Qa _ _ _ f g) λw' b=>?_;have b:=b.symm;subst b)|(go_at_call 191;refine bM (zx _ _ _ _) λw' b=>?_;have b:=b.symm;subst b))
  go_ret;exact⟨zh i,c⟩
 have B:decide (a<=10000)=true:=by simpa using g5
 have o:Hid (_/\_/\_/\_/\_):=⟨g1,g2,g3,g4,g5⟩;clear g1 g2 g3 g4 g5;go_enter func177,ntmps177;go_wp2_with (first|(go_at_call 232;refine bM (QU _ _) λw' b=>?_;have b:=b.symm;subst b)|(go_at_call 233;refine bM (Qa _ _ _ f g) λw' b=>?_;have b:=b.symm;subst b)|(go_at_call 191;refine bM (zx _ _ _ _) λw' b=>?_;have b:=b.symm;subst b))
 refine(FR lo n c1 k _ I O (P.j0 c)).mono ?_;rintro e w1 ⟨⟨K,rfl,i1⟩,p⟩;have t:=za C p;have j:=zb c p;have D:=hI i1;clear i1 C c p
 cases K with
 |false =>
  go_wp2;go_ret;exact⟨zh (λh=>by have:=D.2 h.2.2.2.2.2.2.2.1;cases this),j⟩
 |true =>
  have R:=bC t 6;go_wp2_with fail;refine(Fj s m c2 l _ J N (Q.j0 j)).mono ?_;rintro e w2 ⟨⟨L,rfl,i2⟩,q⟩;have H:=za t q;have r:=zb j q;have E:=hI i2;clear i2 t j q R
  cases L with
  |false =>
   go_wp2;go_ret;exact⟨zh (λh=>by have:=E.2 h.2.2.2.2.2.2.2.2.1;cases this),r⟩
  |true =>
   have q7:=bC H 7
   by_cases g8:In mo 0 500
   ·have M:=Jd g8
    have u:=hI g8;clear g8;go_wp2_with (first|(go_at_call 232;refine bM (QU _ _) λw' b=>?_;have b:=b.symm;subst b)|(go_at_call 233;refine bM (Qa _ _ _ f g) λw' b=>?_;have b:=b.symm;subst b)|(go_at_call 191;refine bM (zx _ _ _ _) λw' b=>?_;have b:=b.symm;subst b))
    go_ret;exact⟨zN ⟨o.1,o.2.1.1,o.2.1.2.1,o.2.1.2.2,o.2.2.1,o.2.2.2.1,o.2.2.2.2,D.1 sM,E.1 sM,u⟩,r⟩
   ·have M:=Jc g8
    have u:=hI g8;clear g8;go_wp2_with (first|(go_at_call 232;refine bM (QU _ _) λw' b=>?_;have b:=b.symm;subst b)|(go_at_call 233;refine bM (Qa _ _ _ f g) λw' b=>?_;have b:=b.symm;subst b)|(go_at_call 191;refine bM (zx _ _ _ _) λw' b=>?_;have b:=b.symm;subst b))
    go_ret;exact⟨zh (λh=>u h.2.2.2.2.2.2.2.2.2),r⟩
theorem IR (B:Option Addr)(N c:Nat)(S:Nat->qe)(w:World)(hN:N<=1048576)(O:Qz N S 1048576)(Q:qy w B N S) :
  Calls prog 97 #[(B,N,c)] w λe w'=>qH (At N S) e/\Below w w w':=by
 have U:=hI O;clear O
 by_cases h6:N<=6
 ·have I:decide (6<N)=false:=by simp;omega
  go_enter func97,ntmps97;go_wp2;go_loopw [3,4,10] (λ_ _ i wr=>∃ k,k<=N/\i=int i64 k/\(∀ j,j<k->Ql (S j)/\(0<j->(S (j - 1)).S<(S j).S))/\Below w w wr) (λ_ _ i _=>N - (intOf i).toNat)
  case atStart=>exact⟨0,Jq _,rfl,λj Z=>by omega,bZ⟩
  case round =>
   obtain⟨k,hk,rfl,p,l⟩:=hrel;have F:=hI p;clear p I
   by_cases hlt:k<N
   ·have G:Hid (0<k->∀ b off,B=some ⟨b,off,none⟩->w.cell? ⟨b,off+(k - 1)*8,none⟩=some (int i64 (S (k - 1)).S)):=by
     intro h b off e;obtain⟨b',T,_,_,_,_,C,g,_⟩:=Q (k - 1) oM;rw[e] at C;simp only[Option.some.injEq,Addr.mk.injEq,and_true] at C;obtain⟨rfl,rfl⟩:=C;exact g
    obtain⟨b,off,la,R,ca,H,rfl,J,h1,h2,h3,K,L,s,M,h8,h9,_,_⟩:=Q k hlt;have z:=hI (λh=>G h b off rfl)
    clear G;have D:=Ja w _ h1;obtain⟨V,c1,c2,c3,c4,c5,c6,c7⟩:=OR l J h1 h2 h3 K L s M D;obtain⟨s1,s2,u,x⟩:=U k hlt;have m:(S k).U.size<=1000000000000000:=oM;have n:(S k).dst.size<=1000000000000000:=oM;clear s1 s2;have d:=zd l (.cells (S k,la,R,ca,H) 140);have a:=Jb wr (.cells (S k,la,R,ca,H) 140);clear J h1 h2 h3 K L s M;go_upto_region 6 with fail;generalize hW:wr.alloc _=W at d a ⊢;clear hW;have a4:=zD a;have z0:=gC a 0;have z1:=gC a 1;have z2:=gC a 2;have z3:=gC a 3;have z4:=gC a 4;have z5:=gC a 5;have z6:=gC a 6;have z7:=gC a 7;have Y:b<W.heap.size:=Nat.lt_of_lt_of_le D d.size;clear V c1 c2 c3 c4 c5 c6 c7 a;go_cut [10,32] (λi c wx=>i=int i64 k/\Kr (Ql (S k)/\(0<k->(S (k - 1)).S<(S k).S)) c/\Below w w wx)
    case first =>
     by_cases hg:Ql (S k)
     ·have o:=hI hg
      clear hg
      by_cases k0:k=0
      ·subst k0
       refine ze kR kR ?_
       repeat(go_big_quiet_step ((rename_i g;go_at_call 177;refine zr (v:=.bool true) ((AZ _ _ _ _ _ _ _ _ _ _ _ _ _ _ _ rfl rfl m n u x (h8.j0 (zb d g.o)) (h9.j0 (zb d g.o))).mono ?_);rintro e E ⟨⟨bb,rfl,r⟩,f⟩;obtain rfl:=r.2 o;exact⟨rfl,f⟩)))
       refine Jl ?_;rintro _ ⟨g,rfl⟩;go_wp2;go_meet;exact⟨rfl,Ag ⟨o,λh=>by omega⟩,zb d g.o⟩
      ·have d0:decide (0<k)=true:=by simp;omega
       have a0:((k:Int) - 1).toNat=k - 1:=oM;have a1:(k:Int) - 1<(N:Int):=oM;have a2:(0:Int)<=(k:Int) - 1:=oM;have a3:IntKind.i64.wrap ((k:Int) - 1)=(k:Int) - 1:=by rw[Jk];omega
       have y0:=gW d (z oM) D
       by_cases hle:(S k).S<=(S (k - 1)).S
       ·have X:decide ((S k).S<=(S (k - 1)).S)=true:=by simpa using hle
        refine ze kR kR ?_
        repeat(go_big_quiet_step ((rename_i g;go_at_call 177;refine zr (v:=.bool true) ((AZ _ _ _ _ _ _ _ _ _ _ _ _ _ _ _ rfl rfl m n u x (h8.j0 (zb d g.o)) (h9.j0 (zb d g.o))).mono ?_);rintro e E ⟨⟨bb,rfl,r⟩,f⟩;obtain rfl:=r.2 o;exact⟨rfl,f⟩)))
        refine Jl ?_;rintro _ ⟨g,rfl⟩;go_wp2;go_meet;exact⟨rfl,Q4 (λh=>by have:=h.2 oM;omega),zb d g.o⟩
       ·have X:decide ((S k).S<=(S (k - 1)).S)=false:=by simpa using hle
        refine ze kR kR ?_
        repeat(go_big_quiet_step ((rename_i g;go_at_call 177;refine zr (v:=.bool true) ((AZ _ _ _ _ _ _ _ _ _ _ _ _ _ _ _ rfl rfl m n u x (h8.j0 (zb d g.o)) (h9.j0 (zb d g.o))).mono ?_);rintro e E ⟨⟨bb,rfl,r⟩,f⟩;obtain rfl:=r.2 o;exact⟨rfl,f⟩)))
        refine Jl ?_;rintro _ ⟨g,rfl⟩;go_wp2;go_meet;exact⟨rfl,Ag ⟨o,λ_=>by omega⟩,zb d g.o⟩
     ·have o:=hI hg
      clear hg;refine ze kR kR ?_
      repeat(go_big_quiet_step ((rename_i g;go_at_call 177;refine zr (v:=.bool false) ((AZ _ _ _ _ _ _ _ _ _ _ _ _ _ _ _ rfl rfl m n u x (h8.j0 (zb d g.o)) (h9.j0 (zb d g.o))).mono ?_);rintro e E ⟨⟨bb,rfl,r⟩,f⟩;obtain rfl:=Bool.eq_false_iff.2 (λe=>o (r.1 e));exact⟨rfl,f⟩)))
      refine Jl ?_;rintro _ ⟨g,rfl⟩;go_wp2;go_meet;exact⟨rfl,Q4 (λh=>o h.1),zb d g.o⟩
    case rest =>
     obtain⟨rfl,⟨t,rfl,P⟩,q⟩:=hcut;have A:=hI P;clear P z0 z1 z2 z3 z4 z5 z6 z7
     cases t with
     |true =>
      go_wp2;go_ret;exact⟨zh (λh=>by have:=A.2 (h.2 k hlt);cases this),q⟩
     |false =>
      have y:=A.1 rfl;have y:=hI y;clear A;go_wp2;go_roundw
      case rel=>exact⟨k+1,by omega,by go_num,λj Z=>by
       by_cases e:j=k
       ·subst e;exact y
       ·exact F j oM,q⟩
      case measure=>simp[intOf];omega
   ·obtain rfl:k=N:=by omega
    go_wp2;go_ret;exact⟨zN ⟨h6,F⟩,l⟩
 ·have I:decide (6<N)=true:=by simp;omega
  go_enter func97,ntmps97;go_wp2;go_ret;exact⟨zh (λh=>h6 h.1),bZ⟩
def pb (N:Nat)(S:Nat->qe)(G:Nat->Int)(w:World)(B k:Nat):Prop :=
 ∃ la lc ls pl t,w.heap[B]?=some (.cells #[.slice la k lc,.string pl,int i64 t] 329 (0,0))/\ls.length=k/\zS w la k (Pr ls)/\(la=none->k=0/\lc=0) /\
  (0<k->pl=(S (zX S (G (k - 1)) N)).dst/\t=(S (zX S (G (k - 1)) N)).T)
theorem Q9 (Y bo:Option Addr)(N n c c':Nat)(S:Nat->qe)(G:Nat->Int)(w:World)(hN:N<=1048576)(hn:n<=1048576)(hs:Qz N S 1048576)(hx:qy w Y N S)(hy:zS w bo n G) :
  Calls prog 195 #[.slice Y N c,.slice bo n c'] w λe w'=>qH (At N S/\Q6 N S n G) e/\Below w w w':=by
 have HS:=hI hs;clear hs;go_enter func195,ntmps195;go_wp2_with fail;refine(IR Y N c S _ hN HS.out hx).mono ?_;rintro e M ⟨⟨b1,rfl,A⟩,r⟩
 cases b1 with
 |false =>
  have HN:Hid (¬ _):=λh=>by have:=A.2 h;cases this
  clear A;go_wp2;go_ret;exact⟨zh (λh=>HN.out h.1),r⟩
 |true =>
  have HT:=hI (A.1 rfl);clear A
  by_cases g3:In (n:Int) 1 3
  case neg =>
   have d3:=Jc g3;have HN:Hid (¬ Q6 N S n G):=λh=>g3 ⟨by have:=h.1;omega,by have:=h.2.1;omega⟩
   clear g3;go_wp2_with (first|(go_at_call 191;refine bM (zx _ _ _ _) λw' p=>?_;have p:=p.symm;subst p))
   go_ret;exact⟨zh (λh=>HN.out h.2),r⟩
  have d3:=Jd g3;have H3:Hid (1<=n/\n<=3):=⟨by have:=g3.1;omega,by have:=g3.2;omega⟩
  have a8:=H3.2;clear g3;go_wp2_with (first|(go_at_call 191;refine bM (zx _ _ _ _) λw' p=>?_;have p:=p.symm;subst p))
  have T:Below _ w (M.alloc (.cells #[.slice none 0 0,.string ⟨#[]⟩,int i64 0] 329)):=zd r _;have D:=Jb M (.cells #[.slice none 0 0,.string ⟨#[]⟩,int i64 0] 329);have hB:=r.size;go_loopw [6,7,8,9,21] (λ_ _ _ _ i wr=>∃ k,k<=n/\i=int i64 k/\(∀ j,j<k->KZ N S G j)/\pb N S G wr M.heap.size k/\Below w w wr) (λ_ _ _ _ i _=>n - (intOf i).toNat)
  case atStart=>exact⟨0,Jq _,rfl,λj hj=>by omega,⟨_,0,[],_,0,D,rfl,λk hk=>by omega,λ_=>⟨rfl,rfl⟩,λh=>by omega⟩,T⟩
  case round =>
   clear T D d3 r;obtain⟨k,hk,rfl,C,F,m⟩:=hrel;have HA:=hI C;have HW:=hI F;clear C F
   by_cases hlt:k<n
   ·obtain⟨qb,a5,rfl,hq⟩:=hy k hlt
    have a4:=Ja w _ hq;have p0:=tR m hq a4;clear hq;go_wp2_with fail;refine(AY Y N c S _ _ hN (hx.j0 m)).mono ?_;rintro e w2 ⟨hr,y⟩;obtain⟨la,lc,ls,pl,t,d,V,l,a3,E⟩:=HW.out;have d:=za d y;have l:=l.j0 y;have f:=zb m y;have I:=hI V;have P:=hI E;clear V E y m p0 HW
    rcases hr with⟨K,rfl⟩|⟨K,rfl⟩
    ·obtain⟨x,L⟩:=nM (zX S (G k) N)
     rw[← L] at K ⊢;have Q:=hI L;clear L;have x1:(x:Int)<(N:Int):=oM;have x0:=n0 x;obtain⟨sb,a6,b4,b5,a9,b3,rfl,h0,h1,h2,h3,h4,h5,h6,h7,_,_,_,_⟩:=hx x K;have X:=Ja w _ h1;have b:sb<w2.heap.size:=Nat.lt_of_lt_of_le X f.size;obtain⟨Z,s1,s2,s3,s4,s5,s6,s7⟩:=OR f h0 h1 h2 h3 h4 h5 h6 h7 X;clear h0 h1 h2 h3 h4 h5 h6 h7;have a7:=zD d;have g0:=gC d 0;have g1:=gC d 1;have g2:=gC d 2;have r0:=gT Z b;have r1:=gT s1 b;have r2:=gT s2 b;have r3:=gT s3 b;have r4:=gT s4 b;have r5:=gT s5 b;have r6:=gT s6 b;have r7:=gT s7 b;go_upto_region 8 with fail;go_cut [8,21,46] (λj i v wx=>j=int i64 x/\i=int i64 k/\Kr (KZ N S G k) v/\Below w2 w2 wx)
     case first =>
      by_cases k0:k=0
      ·subst k0
       refine ze kR kR ?_
       repeat(go_big_quiet_step (fail))
       refine Jl ?_;rintro _ ⟨g,rfl⟩;go_wp2;go_meet;exact⟨rfl,rfl,Ag ⟨by rw[← Q.out];exact K,λh=>by omega⟩,g.o⟩
      ·have d0:decide (0<k)=true:=by simp;omega
       by_cases q:Hq pl t (S x).U (S x).O=true
       ·refine ze kR kR ?_
        repeat(go_big_quiet_step ((go_at_call 247;refine gF (v:=.bool true) (Ls _ _ _ _ _ _ _ _ _ _ _ _ _ _ _ _ _ _) (by rw[q]))))
        refine Jl ?_;rintro _ ⟨g,rfl⟩;go_wp2;go_meet;exact⟨rfl,rfl,Ag ⟨by rw[← Q.out];exact K,λh=>by
         have h1:=Do.1 q;have h2:=P.out h;rw[← Q.out];exact⟨by rw[← h2.1];exact h1.1.symm,by rw[← h2.2];exact h1.2⟩⟩,g.o⟩
       ·have q:=Bool.eq_false_iff.2 q
        refine ze kR kR ?_
        repeat(go_big_quiet_step ((go_at_call 247;refine gF (v:=.bool false) (Ls _ _ _ _ _ _ _ _ _ _ _ _ _ _ _ _ _ _) (by rw[q]))))
        refine Jl ?_;rintro _ ⟨g,rfl⟩;go_wp2;go_meet;exact⟨rfl,rfl,Q4 (λh=>by
         have h1:=h.2 oM;have h2:=P.out oM;rw[← Q.out] at h1;have h3:=Do.2 (show(S x).U=pl/\t<=_ from ⟨by rw[h2.1];exact h1.1.symm,by rw[h2.2];exact h1.2⟩)
         rw[q] at h3;cases h3),g.o⟩
     case rest =>
      clear g0 g1 g2 r0 r1 r2 r3 r4 r5 r6 r7;obtain⟨rfl,rfl,⟨tb,rfl,ht⟩,z⟩:=hcut;have J:=hI ht;clear ht;obtain⟨w3,a2⟩:=nM wc;subst a2;have s:=zb f z
      cases tb with
      |true =>
       clear Z s1 s2 s3 s4 s5 s6 s7;go_wp2;go_ret;exact⟨zh (λh=>by have:=J.2 (h.2.2.2 k hlt);cases this),s⟩
      |false =>
       have HK:=hI (J.1 rfl);clear J;have o:=za d z;obtain⟨Z,s1,s2,s3,s4,s5,s6,s7⟩:=OR z Z s1 s2 s3 s4 s5 s6 s7 b;obtain⟨b0,b1,b2⟩:=ZE o;have B:=(l.j0 z).j0 (Ji _ w3).drew;have u:Hid (w3.drew.heap[M.heap.size]?=_):=o;clear d o l;go_upto_region 10 with fail;go_region_with (first|(go_at_call 248;refine Jm (ij la k lc ls pl t _ _ _ _ _ _ _ _ _ _ _ _ _ I.out ?_ B a3) ?_;(focus omega);rintro e w5 ⟨R,c5,rfl,W,U⟩;have O:=za u.out U;have o0:=bC O 0;have o1:=bC O 1;have o2:=bC O 2;have f0:=zc O 0;have f1:=zc O 1;have f2:=zc O 2))
       all_goals
        have a0:Hid _:=W;clear W;go_wp2;go_roundw
        case rel =>
         refine⟨k+1,by omega,by go_num,λj hj=>?_,?_,?_⟩
         ·by_cases e:j=k
          ·subst e;exact HK.out
          ·exact HA.out j oM
         ·have H:=ZR (ZR (ZR a0.out (a:=⟨M.heap.size,0,none⟩) (zD u.out) (.slice R (k+1) c5)) (a:=⟨M.heap.size,1,none⟩) (zD u.out) (.string (S x).dst)) (a:=⟨M.heap.size,2,none⟩) (zD u.out) (int i64 (S x).T)
          obtain⟨_,_,e5,_,_,a1⟩:=zn H;simp only[Value.slice.injEq,true_and] at e5;obtain⟨rfl,rfl⟩:=e5;exact⟨R,c5,_,_,_,zk (zk (zk O 0 _) 1 _) 2 _,by rw[List.length_append,I.out];rfl,fk (by rw[List.length_append,I.out];rfl) H,λh=>absurd (a1 h).1 oM,λ_=>by
           rw[Nat.add_sub_cancel,← Q.out];exact⟨rfl,rfl⟩⟩
         ·exact(((zb s.drew U).setCell hB _).setCell hB _).setCell hB _
        case measure=>simp[intOf];omega
    ·have HF:=hI K
     clear K;go_upto_region 8 with fail;refine ze kR kR ?_
     repeat(go_big_quiet_step (fail))
     refine Jl ?_;rintro _ ⟨g,rfl⟩;go_wp2;go_ret;exact⟨zh (λh=>by have:=(h.2.2.2 k hlt).1;have:=HF.out;omega),zb f g.o⟩
   ·obtain rfl:k=n:=by omega
    go_wp2;go_ret;exact⟨zN ⟨HT.out,H3.1,H3.2,HA.out⟩,m⟩
theorem kw (g base N R S Q q t m:Nat)(M K J d:Option Addr)(z:Int)(y:qD)(x:zY)(L C A B D E:Nat->Value)(w:World)(hq:w.heap[g]?=some (.cells #[(M,N,S),(K,N,Q),(J,R,q)] 38 (0,0)))(Z:zz w base (M,N,S) (K,N,Q) (J,R,q) N N R x L C A B D E)(b8:x.g=R)(b1:base<=w.heap.size)(U:y.d=4)(e5:In y.v 0 20)(g0:y.c<=3)(b3:zS w d y.c y.J)(b7:qm d y.c t)(b4:0<y.c->∀ a,d=some a->a.block<base)(b5:y.k=(m:Int)+1)(hm:m<R)(l:R<=1048576) :
  Calls prog 93 #[.pointer (some (g,0)),z,.agg (y,d,t)] w λe w'=>Ct g base N S Q M K (λb=>b=g∨(Value.slice J R q).ownBlock=some b) { x with u:=Qq x.u m (Zd (x.u m) z y) } 0 y.k ((x.u m).j2) (λ_ v=>v=.slice none 0 0) L C A B D w e w':=by
 rw[U,b5];have HO:=hI Z;have HQ:=hI hq;have c9:=hI U;have d2:=hI b8;have f4:=hI b1;have f6:=hI b3;have f9:=hI b7;have f7:=hI b4;obtain⟨gb,rfl,b0,d9⟩:=qr Z.u.row oM;obtain⟨cs,b2⟩:=zC Z.u.row gb rfl;obtain⟨d5,d4,eE,q1,q2,q3⟩:=zn (Z.u.j4 m hm);obtain⟨b,T⟩:=nM (x.u m);have f1:=hI T;have a1:=hI b2;have H:Hid (∀ V,Below _ w V->∀ j v,(AM _ E m)[j]?=some v->V.cell? _=some v):=λV hV j v hv=>by
  have hj:j<13:=by
   have h:=(List.getElem?_eq_some_iff.1 hv).1;exact h
  have h:=zs Z.u.row (m*13+j) oM rfl;rw[zO 13 _ m j hj,List.getD_eq_getElem?_getD,hv] at h;exact tR hV h d9
 have f5:Hid (E m=.slice d5 b.c d4):=by rw[T];exact eE
 have i1:=n0 m;have i2:(m:Int)<(R:Int):=oM;have g1:IntKind.i64.wrap ((m:Int)+1 - 1)=(m:Int):=by rw[Jk];omega
 have HM:=hI hm;have f2:=hI b0;clear b2 eE q1 q2 q3 T b0;clear Z hq U b8 b1 b3 b7 b4 b5 hm;obtain⟨pr,Y⟩:=nM (zP ⟨y.v,y.f,y.j,y.w,y.h,y.x⟩ (y.c:Int));have f8:=hI Y;have c:Below _ w ((w.alloc (.cells #[int i64 4,y.j1,int i64 ((m:Int)+1),(d,y.c,t),y.v,y.f,y.j,y.w,y.h,y.x,y.y,y.D] 47)).alloc (.cells #[(),(),(),True] 41)):=zd (zd bZ _) _;have p:=zg (Jb w (.cells #[int i64 4,y.j1,int i64 ((m:Int)+1),(d,y.c,t),y.v,y.f,y.j,y.w,y.h,y.x,y.y,y.D] 47)) (.cells #[(),(),(),True] 41);have s:=EB w (.cells #[int i64 4,y.j1,int i64 ((m:Int)+1),(d,y.c,t),y.v,y.f,y.j,y.w,y.h,y.x,y.y,y.D] 47) (.cells #[(),(),(),True] 41);go_enter func93,ntmps93;go_wp2_with fail;generalize ((w.alloc _).alloc _)=W at c p s ⊢;refine bM (Z6 _ _ _ _ _ _ _ _ e5 (by unfold In;omega)) λV F=>?_
 rw[← Y];clear Y;replace c:=zb c F;replace p:=za p F;replace s:=za s F;clear F W;have o0:=bC p 0;have n2:∀ G:zy V,G.val.cell? _=some (.slice _ R q):=λG=>bC (za HQ (zb c G.o)) 2
 have m2:∀ G:zy V,G.val.cell? _=some (.int _ _):=λG=>bC (za p G.o) 2
 go_upto_region 17 with fail;refine ze kR kR ?_
 repeat(first|go_big_quiet_skip|(go_big_quiet_want;go_big_quiet_op;first|go_big_quiet_on|fail))
 refine Jl ?_;rintro _ ⟨G,rfl⟩;replace c:=zb c G.o;replace p:=za p G.o;replace s:=za s G.o;have e6:=zD s;have o2:=bC p 2;clear o0 n2 m2;have o0:=aC p 0;go_upto_region 20 with fail;replace c:=zd c (.cells #[(),int i64 ((m:Int)+1),(),True] 41);replace p:=zg p (.cells #[(),int i64 ((m:Int)+1),(),True] 41);replace s:=zg s (.cells #[(),int i64 ((m:Int)+1),(),True] 41);have bT:=Jb G.val (.cells #[(),int i64 ((m:Int)+1),(),True] 41);generalize G.val.alloc _=X at c p s bT ⊢;generalize G.val.heap.size=tb at bT e6 ⊢;clear o0 o2 G V;have P:=za a1 c;have e7:=H X c 10 _ rfl;have e8:=H X c 11 _ rfl;have e9:=H X c 12 _ rfl;have d6:=zc P (m*13+10);have d7:=zc P (m*13+11);obtain⟨t0,t1,t2,t3⟩:=Qk bT;go_upto_region 23 with fail;have I:Hid (Zd (x.u m) z y={ x.u m with C:=2,y:=0 }):=by show _=_;simp[Zd,c9.out]
 have n:zl X ((X.setCell _ (int i64 2)).setCell _ ()) _:=(((zl.refl X (λb=>b=gb)).set (a:=(gb,m*13+10)) rfl _).set (a:=(gb,m*13+11)) rfl _)
 have o:Hid (((X.setCell (gb,m*13+10) (int i64 2)).setCell (gb,m*13+11) ()).ownsRow base 150 13 (some (gb,0),R,q) R (AQ (Qq x.u m (Zd (x.u m) z y)) (AP E m (E m)) R)):=by
  refine qX (zI (zI ((HO.j0 c).u.row) _ _) _ _) (λj _=>Fu 13 dC (k:=m) (C:=AM x.u E) (f:=λi=>if i=_ then _ else if i=_ then _ else _) (λr hr=>?_) (λj hj=>?_) (λi hi=>?_) j)
  ·have l:=zO 13 (AM x.u E) m r hr
   unfold AM;rw[ZS,qg,I.out];unfold AM at l;have b6:r=0∨r=1∨r=2∨r=3∨r=4∨r=5∨r=6∨r=7∨r=8∨r=9∨r=10∨r=11∨r=12:=oM
   rcases b6 with rfl|rfl|rfl|rfl|rfl|rfl|rfl|rfl|rfl|rfl|rfl|rfl|rfl
   ·rw[Je oM,Je oM,l];rfl
   ·rw[Je oM,Je oM,l];rfl
   ·rw[Je oM,Je oM,l];rfl
   ·rw[Je oM,Je oM,l];rfl
   ·rw[Je oM,Je oM,l];rfl
   ·rw[Je oM,Je oM,l];rfl
   ·rw[Je oM,Je oM,l];rfl
   ·rw[Je oM,Je oM,l];rfl
   ·rw[Je oM,Je oM,l];rfl
   ·rw[Je oM,Je oM,l];rfl
   ·rw[Je oM,Jf rfl];rfl
   ·rw[Jf rfl];rfl
   ·rw[Je oM,Je oM,l];rfl
  ·rw[Je oM,Je oM]
  ·unfold AM
   rw[Au _ _ _ hi,zV _ _ _ _ hi]
 have a5:=hI ((HO.j0 c).k4 n o (by rw[I.out];exact(HO.j0 c).u.j4 m HM) (HO.u.far_same HM))
 have e4:g≠gb:=λe=>by have h:=a1.out;rw[← e,HQ.out] at h;simp at h
 have a6:=hI (n.blk (za HQ c) e4);have u:=n.blk bT (by show _;omega)
 have a7:=n.blk s (by show _;omega)
 have a3:Hid (zl w _ (λb=>b=g∨(Value.slice (some (gb,0)) R q).ownBlock=some b)):=(zl.of_below c).trans (n.mono (λb e=>.inr (by rw[show _ from e];rfl)))
 have f0:((X.setCell (gb,m*13+10) (int i64 2)).setCell (gb,m*13+11) ()).cell? (gb,m*13+12)=some (x.u m).j2:=by
  have h:=zs o (m*13+12) (by have:=HM;omega) rfl
  rw[zO 13 _ m 12 dC] at h;unfold AM at h;rw[ZS,I.out] at h;exact h
 generalize ((X.setCell _ _).setCell _ _)=Z1 at n o a5 a6 u a7 a3 f0 ⊢;clear n o bT s p P t0 t1 t2 t3 e7 e8 e9 d6 d7;have a9:w.heap.size+1≠tb:=oM;obtain⟨d1,d8,d0,O,d3⟩:=Hf a3 a5 a6 a7 u a9 oM ((x.u m).j2) rfl;obtain⟨a4,a8,a2,bF⟩:=BY d0 d1 d8 O oM () (int i64 ((m:Int)+1)) ((x.u m).j2) True rfl;obtain⟨t0,t1,t2,t3⟩:=Qk d3;have s2:=bC u 2;have s3:=zc u 2;obtain⟨v0,v1,v2,v3⟩:=Qk O;obtain⟨e0,e1,e2,e3⟩:=EV O;have a0:=hI a4;have c0:=hI a8;have b9:=hI a2;clear a4 a8 a2;go_wp2;obtain⟨x0,x1,x2,x3⟩:=Qk bF;refine Jj (v:=.agg #[(),int i64 ((m:Int)+1),((x.u m).j2),True]) (by simp[results,results93,go_sem,x0,x1,x2,x3]) rfl ?_
 have l:=d2;subst l;exact⟨_,_,_,_,rfl,rfl,a0,c0,b9⟩
end Go.Proofs.YtmdnjgihooflfaaGreatDoor
