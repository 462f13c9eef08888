import Derived.Deep.CutBlock
import Derived.Test.YtmdnjgihooflfaaGreatDoorB04
import Derived.Test.YtmdnjgihooflfaaGreatDoorB03
namespace Go.Proofs.YtmdnjgihooflfaaGreatDoor
open Go.RowKit
open Go.Value (int)
open Go.IntKind (i64)
open _root_.Go.Proofs.Tryz
set_option maxHeartbeats 64000000
set_option maxRecDepth 1000000
variable{x:zw}{b:zA}{k:Nat}
theorem Pp (pe len hei cl:Int)(all:Bool)(be:Int)(w:World)(m:In pe 1 20)(k:Zn w)(l:Zp w) :
  Calls prog 285 #[.agg #[pe,len,hei,cl,all,be]] w λe w'=>e=.returned (int i64 (40*pe+Qd len hei+Zs cl all be))/\Below w w w':=by
 obtain⟨f,c⟩:=nM (Qd len hei);obtain⟨h,b⟩:=nM (Zs cl all be);rw[← c,← b];have r:0<=f/\f<=500:=by rw[c];exact Dc len hei
 have s:0<=h/\h<=320:=by rw[b];exact BK cl all be
 have j:=hI c;have i:=hI b;have n:=hI k;have o:=hI l;unfold In at m;have t:=wR (40*pe);have u:=wR (40*pe+f);have x:=wR (40*pe+f+h);clear c b k l r s m;go_enter func285,ntmps285;go_upto_region 1 with fail;have a:Below _ w (w.alloc (.cells #[pe,len,hei,cl,all,be] 45)):=zd bZ _;have d:=Qc a;generalize w.alloc _=W at a d ⊢;have s0:=zD d;have y:=gC d 0;have z:=gC d 1;have A:=gC d 2;have B:=gC d 3;have C:=gC d 4;have D:=gC d 5;have p:Hid (∀ g:zy W,_):=λg=>(n.j0 a).j0 g.o
 have q:Hid (∀ g:zy W,_):=λg=>(o.j0 a).j0 g.o
 refine ze kR kR ?_
 repeat(go_big_quiet_step ((rename_i g;first|(go_at_call 292;refine gF (v:=int i64 f) (Po _ _ _ (p g)) (by rw[j.out]))|(go_at_call 293;refine gF (v:=int i64 h) (LU _ _ _ _ (q g)) (by rw[i.out])))))
 refine Jl ?_;rintro _ ⟨g,rfl⟩;clear y z A B C D;go_wp2;go_ret;exact⟨rfl,zb a g.o⟩
theorem LV (pe len hei cl:Int)(all:Bool)(be legs:Int)(w:World)(z:Zn w)(j:Zp w) :
  Calls prog 253 #[.agg #[pe,len,hei,cl,all,be],legs] w λe w'=>DU ⟨pe,len,hei,cl,all,be⟩ legs e/\Below w w w':=by
 have A:=hI z;have B:=hI j;clear z j;go_enter func253,ntmps253;go_wp2_with fail;have g:Below _ w (w.alloc (.cells #[pe,len,hei,cl,all,be] 45)):=zd bZ _;have u:=Qc g;generalize w.alloc _=W at g u ⊢;refine(QX pe len hei cl all be _).mono ?_;rintro e w1 ⟨⟨q,rfl,s⟩,k⟩;have o:=za u k;have b:=zb g k;obtain⟨P,Q,R,S,T,U⟩:=Rz o;clear g u k
 cases q with
 |false =>
  have C:Hid (¬ _):=λh=>by have:=s.2 h;cases this
  clear s o;go_wp2;exact Jj (by simp[results,results253,go_sem]) rfl ⟨Il (λh=>C h.1),b⟩
 |true =>
  have m:=hI (s.1 rfl);clear s
  by_cases k1:In legs 1 3
  ·have O:=Jd k1
   have n:=hI k1;obtain⟨F,j⟩:=nM (40*pe+Qd len hei+Zs cl all be);have t:=hI j;have x:0<=F/\F<=2000:=by
    have h1:=Dc len hei;have h2:=BK cl all be;have h3:=m.1;unfold In at h3;dsimp only at h3;rw[j];omega
   obtain⟨V,y⟩:=nM (zP ⟨pe,len,hei,cl,all,be⟩ legs);obtain⟨M,r⟩:=nM (legs*F);have c:Hid (V=Cm pe legs M):=by show V=_;rw[y,r,j];rfl
   have d:=hI y;have p:0<=M/\M<=10000:=by
    have h3:legs=1∨legs=2∨legs=3:=by unfold In at k1;omega
    rw[r]
    rcases h3 with rfl|rfl|rfl <;> omega
   have D:IntKind.i64.wrap (legs*F)=M:=by rw[← r,Jk];omega
   clear k1 j y r x;go_wp2_with (first|(go_at_call 191;refine bM (zx _ _ _ _) λw' a=>?_;have a:=a.symm;subst a))
   refine(Pp pe len hei cl all be _ m.1 (A.j0 b) (B.j0 b)).mono ?_;rw[← t.out];rintro e w2 ⟨rfl,l⟩;have c0:=bC (za o l) 0;have f:=zb b l;clear P Q R S T U o l;have q1:Int.tdiv M 20=M / 20:=by rw[Int.tdiv_eq_ediv_of_nonneg p.1]
   have q2:Int.tdiv M 10=M / 10:=by rw[Int.tdiv_eq_ediv_of_nonneg p.1]
   have E:=wR (M / 20);have G:=wR (M - M / 20);have H:=wR (M / 10);have I:=wR (M - M / 10);have q3:Int.tdiv (M - M / 20) 10=(M - M / 20) / 10:=by rw[Int.tdiv_eq_ediv_of_nonneg oM]
   have J:=wR ((M - M / 20) / 10);have K:=wR (M - M / 20 - (M - M / 20) / 10)
   by_cases j1:8<=pe
   ·have L:=Jd j1
    by_cases j2:legs=3
    ·subst j2
     have i:Hid (zP ⟨pe,len,hei,cl,all,be⟩ 3=M - M / 20 - (M - M / 20) / 10):=by show _=_;rw[← d.out,c.out];unfold Cm;rw[Jf j1,Jf rfl]
     clear j1;go_wp2;exact Jj (v:=.tuple #[int i64 (M - M / 20 - (M - M / 20) / 10),.bool true]) (by simp[results,results253,go_sem]) rfl ⟨by rw[← i.out];exact Cx ⟨m,n⟩,f⟩
    ·have N:(legs == 3)=false:=by simpa using j2
     have i:Hid (zP ⟨pe,len,hei,cl,all,be⟩ legs=M - M / 20):=by show _=_;rw[← d.out,c.out];unfold Cm;rw[Jf j1,Je j2]
     clear j1 j2;go_wp2;exact Jj (v:=.tuple #[int i64 (M - M / 20),.bool true]) (by simp[results,results253,go_sem]) rfl ⟨by rw[← i.out];exact Cx ⟨m,n⟩,f⟩
   ·have L:=Jc j1
    by_cases j2:legs=3
    ·subst j2
     have i:Hid (zP ⟨pe,len,hei,cl,all,be⟩ 3=M - M / 10):=by show _=_;rw[← d.out,c.out];unfold Cm;rw[Je j1,Jf rfl]
     clear j1;go_wp2;exact Jj (v:=.tuple #[int i64 (M - M / 10),.bool true]) (by simp[results,results253,go_sem]) rfl ⟨by rw[← i.out];exact Cx ⟨m,n⟩,f⟩
    ·have N:(legs == 3)=false:=by simpa using j2
     have i:Hid (zP ⟨pe,len,hei,cl,all,be⟩ legs=M):=by show _=_;rw[← d.out,c.out];unfold Cm;rw[Je j1,Je j2]
     clear j1 j2;go_wp2;exact Jj (v:=.tuple #[M,.bool true]) (by simp[results,results253,go_sem]) rfl ⟨by rw[← i.out];exact Cx ⟨m,n⟩,f⟩
  ·have O:=Jc k1
   have n:=hI k1;clear k1 o;go_wp2_with (first|(go_at_call 191;refine bM (zx _ _ _ _) λw' a=>?_;have a:=a.symm;subst a))
   exact Jj (by simp[results,results253,go_sem]) rfl ⟨Il (λh=>n h.2),b⟩
theorem Dv (y:qD)(c:Option Addr)(d:Nat)(w:World)(p:Zn w)(q:Zp w)(h:QO ⟨y.v,y.f,y.j,y.w,y.h,y.x⟩ y.c) :
  Calls prog 202 #[.agg (y,c,d)] w λe w'=>e=.returned (zP ⟨y.v,y.f,y.j,y.w,y.h,y.x⟩ y.c)/\Below w w w':=by
 have a:Below _ w (w.alloc (.cells (y,c,d) 47)):=zd bZ _;have b:=Qc a;go_enter func202,ntmps202;go_upto_region 1 with fail;generalize w.alloc _=V at a b ⊢;have i:=bC b 3;have j:=bC b 4;have k:=bC b 5;have l:=bC b 6;have m:=bC b 7;have n:=bC b 8;have o:=bC b 9;go_wp2_with fail;clear i j k l m n o;refine(LV _ _ _ _ _ _ _ V (p.j0 a) (q.j0 a)).mono ?_;rintro e W ⟨hr,f⟩;have g:=by unfold DU at hr;rw[Jf h,Jd h] at hr;exact hr
 subst g;clear hr;go_wp2;go_ret;exact⟨rfl,zb a f⟩
def Pq (b:zA)(dep:Int)(y:qD):Int:=if y.d=4 then b.j2 else if y.d=5 then zP ⟨y.v,y.f,y.j,y.w,y.h,y.x⟩ y.c else if y.d=6 then Z9 b.j2 (dep - y.D) else 0
theorem fj (b:zA)(m:Option Addr)(l:Nat)(dep:Int)(y:qD)(d:Option Addr)(f:Nat)(w:World)(u:Zn w)(v:Zp w)(n:y.d=5->QO ⟨y.v,y.f,y.j,y.w,y.h,y.x⟩ y.c)(j:In dep 0 1000000/\(y.d=6->In y.D 0 1000000)) :
  Calls prog 206 #[.agg (b,m,l),dep,.agg (y,d,f)] w λe w'=>e=.returned (Pq b dep y)/\Below w w w':=by
 have a:Below _ w ((w.alloc (.cells (b,m,l) 150)).alloc (.cells (y,d,f) 47)):=zd (zd bZ _) _;have i:=Cs a;have c:=Dt a;unfold Pq
 by_cases k4:y.d=4
 ·have r:(y.d == 4)=true:=by simpa using k4
  rw[Jf k4];clear k4 n j;go_enter func206,ntmps206;go_upto_region 1 with fail;generalize (w.alloc _).alloc _=V at a i c ⊢;have o:=bC c 0;have k:=bC i 12;go_wp2;go_ret;exact⟨rfl,a⟩
 have r:(y.d == 4)=false:=by simpa using k4
 rw[Je k4]
 by_cases k5:y.d=5
 ·have s:(y.d == 5)=true:=by simpa using k5
  have q:=hI (n k5);rw[Jf k5];clear k4 k5 n j;go_enter func206,ntmps206;go_upto_region 1 with fail;generalize (w.alloc _).alloc _=V at a i c ⊢;obtain⟨o,x,z,A,B,C,D,E,F,G,p,h⟩:=DQ c;go_wp2_with fail;clear o x z A B C D E F G p h;refine bM (Dv y d f V (u.j0 a) (v.j0 a) q) λW g=>?_
  go_wp2;go_ret;exact⟨rfl,zb a g⟩
 have s:(y.d == 5)=false:=by simpa using k5
 rw[Je k5]
 by_cases k6:y.d=6
 ·have t:(y.d == 6)=true:=by simpa using k6
  have hw:IntKind.i64.wrap (dep - y.D)=dep - y.D:=by have h1:=j.1;have h2:=j.2 k6;unfold In at h1 h2;rw[Jk];omega
  rw[Jf k6];clear k4 k5 k6 n j;go_enter func206,ntmps206;go_upto_region 1 with fail;generalize (w.alloc _).alloc _=V at a i c ⊢;have o:=bC c 0;have h:=bC c 11;have k:=bC i 12;go_wp2_with fail;refine bM (KI _ _ V) λW g=>?_
  clear o h k;go_wp2;go_ret;exact⟨rfl,zb a g⟩
 ·have t:(y.d == 6)=false:=by simpa using k6
  rw[Je k6];clear k4 k5 k6 n j;go_enter func206,ntmps206;go_upto_region 1 with fail;generalize (w.alloc _).alloc _=V at a i c ⊢;have o:=bC c 0;go_wp2;go_ret;exact⟨rfl,a⟩
def Ma (a b:Bool):List Value:=(if a=true then [int i64 0] else [])++(if b=true then [int i64 1] else [])++[int i64 2]
def Mb (p:ZP):Bool:=decide (¬ (p.f=0/\p.j=0))
def Mc (p:ZP):Bool:=decide (¬ (p.w=0/\p.h=false/\p.x=0))
theorem ke (a b:Bool):(Ma a b).length<=3:=by cases a <;> cases b <;> decide
theorem Md (p:ZP)(w:World) :
  Calls prog 251 #[.agg #[p.v,p.f,p.j,p.w,p.h,p.x]] w λe w'=>(∃ v,e=.returned v/\w'.ownsRow w 3 1 v (Ma (Mb p) (Mc p)).length (Ma (Mb p) (Mc p)))/\Below w w w':=by
 obtain⟨n0,M,x,y,z⟩:=info_parts Tryz.infoInt;obtain⟨a,K⟩:=nM (Mb p);obtain⟨b,L⟩:=nM (Mc p);have R:Hid (a=decide _):=K;have S:Hid (b=decide _):=L;rw[← K,← L];clear K L;have f:Below _ w (w.alloc (.cells #[p.v,p.f,p.j,p.w,p.h,p.x] 45)):=zd bZ _;have A:=Jb w (.cells #[p.v,p.f,p.j,p.w,p.h,p.x] 45);go_enter func251,ntmps251;go_wp2_with fail;generalize w.alloc _=V at f A ⊢;refine bM (Du _ _ _ _ _ _ V) λJ h=>?_
 rw[← R.out];replace f:=zb f h;replace A:=za A h;clear h V;go_upto_if 5 with fail;go_cut [3] (λN B=>B.ownsRow w 3 1 N (if a=true then [Value.int .i64 0] else []).length (if a=true then [Value.int .i64 0] else [])/\B.heap[w.heap.size]?=some (.cells #[p.v,p.f,p.j,p.w,p.h,p.x] 45 (0,0))/\Below w w B)
 case first =>
  have d:=f;have T:J.ownsRow w 3 1 _ 0 []:=World.ownsRow_nil _ _ _ _
  cases a with
  |false =>
   go_wp2;go_meet;exact⟨World.ownsRow_nil _ _ _ _,A,f⟩
  |true =>
   have i:=T.alloc (.cells #[()] 3);have n:Hid (∀ j u,[_][j]?=_->_):=Jo (cs:=#[()]) (t:=3) (fr:=(0,0)) (Jb J _);have c:w.heap.size<=(J.alloc (.cells #[()] 3)).heap.size:=(zd d _).size;go_wp2_with (first|(at_builtin;refine wpList_append_lies _ rfl _ _ 27 rfl _ 3 n0 _ 1 8 underlying27 M x y z rfl dC _ 0 [] (by rfl) i _ 1 1 _ rfl rfl n (by intro u s;simp at s;subst s;rfl) dC (by unfold maxLen;omega) oM c _ rfl ?_;intro g D Q o l _ _))
   go_meet;exact⟨o,(qY l).blk (zg A _) (λe=>by cases e),(zd f _).grown l c (λj E=>by cases E)⟩
 case rest =>
 obtain⟨m,C,k⟩:=hcut;obtain⟨G,q⟩:=nM ((if a=true then [Value.int .i64 0] else []));rw[← q] at m;have H:=hI q;have U:G.length<=1:=by rw[q];cases a <;> decide
 clear q f A;obtain⟨X,Y,Z,p3,p4,p5⟩:=Rz C;go_wp2_with fail;clear X Y Z p3 p4 p5;refine bM (Ar _ _ _ _ _ _ _) λP h=>?_
 rw[← S.out];replace k:=zb k h;replace m:=zm h m;clear h C;go_upto_if 10 with fail;go_cut [3] (λN B=>B.ownsRow w 3 1 N (G++(if b=true then [Value.int .i64 1] else [])).length (G++(if b=true then [Value.int .i64 1] else []))/\Below w w B)
 case first =>
  have d:=k
  cases b with
  |false =>
   go_wp2;go_meet;exact⟨by simpa using m,k⟩
  |true =>
   have i:=m.alloc (.cells #[int i64 1] 3);have n:Hid (∀ j u,[_][j]?=_->_):=Jo (cs:=#[int i64 1]) (t:=3) (fr:=(0,0)) (Jb P _);have c:w.heap.size<=(P.alloc (.cells #[int i64 1] 3)).heap.size:=(zd d _).size;go_wp2_with (first|(at_builtin;refine wpList_append_lies _ rfl _ _ 27 rfl _ 3 n0 _ 1 8 underlying27 M x y z rfl dC _ _ G (by rfl) i _ 1 1 _ rfl rfl n.out (by intro u s;simp at s;subst s;rfl) dC (by unfold maxLen;omega) oM c _ rfl ?_;intro g D Q o l _ _))
   go_meet;exact⟨by simpa using o,(zd k _).grown l c (λj E=>(i.lt j E).1)⟩
 case rest =>
 clear m k;obtain⟨F,d⟩:=hcut;obtain⟨O,r⟩:=nM (G++(if b=true then [Value.int .i64 1] else []));rw[← r] at F;have I:Hid (O++[int i64 2]=Ma a b):=by show _=_;rw[r,H.out];rfl
 have W:O.length<=2:=by rw[r,List.length_append];cases b <;> simp <;> omega
 clear r;have i:=F.alloc (.cells #[int i64 2] 3);have n:Hid (∀ j u,[_][j]?=_->_):=Jo (cs:=#[int i64 2]) (t:=3) (fr:=(0,0)) (Jb wc _);have c:w.heap.size<=(wc.alloc (.cells #[int i64 2] 3)).heap.size:=(zd d _).size;go_wp2_with (first|(at_builtin;refine wpList_append_lies _ rfl _ _ 27 rfl _ 3 n0 _ 1 8 underlying27 M x y z rfl dC _ _ O (by rfl) i _ 1 1 _ rfl rfl n (by intro u s;simp at s;subst s;rfl) dC (by unfold maxLen;omega) oM c _ rfl ?_;intro g D Q o l _ _))
 go_ret;rw[← I.out];exact⟨⟨_,rfl,by simpa using o⟩,(zd d _).grown l c (λj E=>(i.lt j E).1)⟩
theorem Gk (B:Option Addr)(n c:Nat)(p:zv)(F:Nat->Int)(x l s h:Int)(w:World)(E:p.n=n)(hn:n<=4)(M:zJ w B p) :
  Calls prog 264 #[(B,n,c),.agg #[(F 0),(F 1),(F 2),(F 3)],.agg #[x,l,s,h]] w λe w'=>qH (Kc p F ⟨x,l,s,h⟩) e/\Below w w w':=by
 have z:=hI E;clear E;go_enter func264,ntmps264;go_upto_region 1 with fail;have d:((w.alloc _).alloc (.cells #[x,l,s,h] 220)).heap[w.heap.size]?=some (.cells #[(F 0),(F 1),(F 2),(F 3)] 319 (0,0)):=zg (Jb w _) _;have f:=Kw d;have a:=lu d;generalize (w.alloc _).alloc _=W at d f a ⊢;have H:=zD d;have N:=zD f;have z0:=gC f 0;have z1:=gC f 1;have z2:=gC f 2;have z3:=gC f 3;have y:Hid (∀ m,m<4->∀ g:zy W,g.val.cell? (w.heap.size,m)=some (F m)):=by
  intro m G g;refine(g.o.cell H).trans ?_;have:m=0∨m=1∨m=2∨m=3:=oM
  rcases this with rfl|rfl|rfl|rfl
  ·exact bC d 0
  ·exact bC d 1
  ·exact bC d 2
  ·exact bC d 3
 clear d f H N;have L:IntKind.i64.wrap ((n:Int) - 1)=(n:Int) - 1:=by rw[Jk];omega
 by_cases h1:In x 1 9999
 ·have i:=Jd h1
  have q:=hI h1;clear h1
  by_cases h2:In s 1 2000/\In h 1 500
  ·have j:=Jd h2
   have o:=hI h2;clear h2
   by_cases h3:In l 0 ((n:Int) - 1)
   ·have k:=Jd h3
    have r:=hI h3;obtain⟨m,rfl⟩:∃ m:Nat,l=m:=⟨l.toNat,by unfold In at h3;omega⟩
    have G:m<n:=by unfold In at h3;omega
    clear h3;obtain⟨b,off,rfl,C,D⟩:=M m (by rw[z.out];exact G)
    have K:=Ja w _ C;have y2:=gW a D K;have y3:=y m oM;have i1:=n0 m;have i2:(m:Int)<(n:Int):=oM;have i3:(m:Int)<4:=oM;have i4:m<4:=oM;clear C D
    by_cases h4:h<=p.B m
    ·have I:=Jd h4
     have t:=hI h4;clear h4
     by_cases h5:s<=F m
     ·have J:=Jd h5
      have u:=hI h5;clear h5;refine ze kR kR ?_
      repeat(go_big_quiet_step ((first|(go_at_call 102;refine gE (v:=.bool true) (Z5 _ _) (by rw[i]))|(go_at_call 267;refine gE (v:=.bool true) (Bq _ _ _) (by rw[j]))|(go_at_call 191;refine gE (v:=.bool true) (zx _ _ _ _) (by rw[k])))))
      refine Jl ?_;rintro _ ⟨g,rfl⟩;go_wp2;go_ret;exact⟨zN ⟨q,o.1,o.2,by rw[z.out];exact r,t,u⟩,zb a g.o⟩
     ·have J:=Jc h5
      have u:=hI h5;clear h5;refine ze kR kR ?_
      repeat(go_big_quiet_step ((first|(go_at_call 102;refine gE (v:=.bool true) (Z5 _ _) (by rw[i]))|(go_at_call 267;refine gE (v:=.bool true) (Bq _ _ _) (by rw[j]))|(go_at_call 191;refine gE (v:=.bool true) (zx _ _ _ _) (by rw[k])))))
      refine Jl ?_;rintro _ ⟨g,rfl⟩;go_wp2;go_ret;exact⟨zh (λA=>Int.not_le.2 u A.room),zb a g.o⟩
    ·have I:=Jc h4
     have t:=hI h4;clear h4;refine ze kR kR ?_
     repeat(go_big_quiet_step ((first|(go_at_call 102;refine gE (v:=.bool true) (Z5 _ _) (by rw[i]))|(go_at_call 267;refine gE (v:=.bool true) (Bq _ _ _) (by rw[j]))|(go_at_call 191;refine gE (v:=.bool true) (zx _ _ _ _) (by rw[k])))))
     refine Jl ?_;rintro _ ⟨g,rfl⟩;go_wp2;go_ret;exact⟨zh (λA=>Int.not_le.2 t A.high),zb a g.o⟩
   ·have k:=Jc h3
    have r:=hI h3;clear h3;refine ze kR kR ?_
    repeat(go_big_quiet_step ((first|(go_at_call 102;refine gE (v:=.bool true) (Z5 _ _) (by rw[i]))|(go_at_call 267;refine gE (v:=.bool true) (Bq _ _ _) (by rw[j]))|(go_at_call 191;refine gE (v:=.bool false) (zx _ _ _ _) (by rw[k])))))
    refine Jl ?_;rintro _ ⟨g,rfl⟩;go_wp2;go_ret;exact⟨zh (λh=>r (by have:=h.ln;rw[z.out] at this;exact this)),zb a g.o⟩
  ·have j:=Jc h2
   have o:=hI h2;clear h2;refine ze kR kR ?_
   repeat(go_big_quiet_step ((first|(go_at_call 102;refine gE (v:=.bool true) (Z5 _ _) (by rw[i]))|(go_at_call 267;refine gE (v:=.bool false) (Bq _ _ _) (by rw[j])))))
   refine Jl ?_;rintro _ ⟨g,rfl⟩;go_wp2;go_ret;exact⟨zh (λh=>o ⟨h.f,h.j⟩),zb a g.o⟩
 ·have i:=Jc h1
  have q:=hI h1;clear h1;refine ze kR kR ?_
  repeat(go_big_quiet_step ((first|(go_at_call 102;refine gE (v:=.bool false) (Z5 _ _) (by rw[i])))))
  refine Jl ?_;rintro _ ⟨g,rfl⟩;go_wp2;go_ret;exact⟨zh (λh=>q h.e),zb a g.o⟩
theorem II (c d x:Int)(a:Nat)(w:World)(g:w.cell? (a,0)=some (int i64 x)) :
  Calls prog 274 #[.agg #[c,d],.pointer (some (a,0))] w λe w'=>e=.returned (.bool (c == x))/\Below w w w':=by
 have b:=Ja w _ g;have f:¬ a=w.heap.size:=by have:a<w.heap.size:=b;omega
 go_enter func274,ntmps274;go_wp2;go_ret;exact⟨rfl,zd bZ _⟩
theorem Mm (r:Option Addr)(n c:Nat)(S:Nat->qO)(x:Int)(g:Nat)(w:World)(hn:n<=1048576)(y:qC w r n S)(p:w.cell? (g,0)=some (int i64 x)) :
  Calls prog 273 #[(r,n,c),.func (.func 274) #[] #[.pointer (some (g,0))]] w λe w'=>e=.returned (Zt (ZZ S) x n)/\Below w w w':=by
 have o:=Ja w _ p;go_enter func273,ntmps273;go_wp2;go_loopw [5,8] (λ_ i wr=>∃ k,k<=n/\i=int i64 k/\(∀ j,j<k->ZZ S j≠x)/\Below w w wr) (λ_ i _=>n - (intOf i).toNat)
 case atStart=>exact⟨0,Jq _,rfl,λj v=>by omega,bZ⟩
 case round =>
  obtain⟨k,hk,rfl,d,a⟩:=hrel;have h:=hI d;clear d
  by_cases hlt2:k<n
  ·obtain⟨b,off,rfl,m,h1⟩:=y k hlt2
   have s:=Ja w _ m;have c0:=tR a m s;have c1:=tR a h1 s;have q:=hI (tR a p o);clear m h1 p
   by_cases he:ZZ S k=x
   ·have u:((S k).e == x)=true:=by unfold ZZ at he;simpa using he
    have l:Hid (Zt (ZZ S) x n=k):=by
     have:=Fv hlt2 he h;unfold Zt Hid;rw[this,Jf hlt2]
    clear he;go_wp2_with (first|(go_at_call 274;refine bM (II _ _ x g _ q) λz f=>?_))
    go_ret;exact⟨by rw[l.out];rfl,zb a f⟩
   ·have u:((S k).e == x)=false:=by unfold ZZ at he;simpa using he
    have t:Hid (_≠x):=he;clear he;go_wp2_with (first|(go_at_call 274;refine bM (II _ _ x g _ q) λz f=>?_))
    go_roundw
    case rel=>exact⟨k+1,by omega,by go_num,λj v=>by
     by_cases e:j=k
     ·subst e;exact t
     ·exact h j oM,zb a f⟩
    case measure=>simp[intOf];omega
  ·obtain rfl:k=n:=by omega
   have l:=hI (Cf (DC h));go_wp2;go_ret;exact⟨by rw[l.out];rfl,a⟩
/-- seatOf: where the stay of the by stands, -1 ZN one. -/
theorem Ey (b:Option Addr)(n c:Nat)(S:Nat->qO)(x:Int)(w:World)(i:n<=1048576)(j:qC w b n S) :
  Calls prog 245 #[(b,n,c),x] w λe w'=>e=.returned (Zt (ZZ S) x n)/\Below w w w':=by
 have a:Below _ w (w.alloc (.cells #[x] 3)):=zd bZ _;have g:=hI (j.j0 a);have f:Hid ((w.alloc (.cells #[_] 3)).cell? _=some (int i64 x)):=bC (Jb w _) 0;have h:∀ (fn) (first cap) (w),(Instr.makeFunc fn _ cap).run prog w=.ok (.func fn first cap) w:=λ_ _ _ _=>rfl
 go_enter func245,ntmps245;go_wp2_with (first|(go_at_call 273;refine bM (Mm b n c S x _ _ i g f) λw2 d=>?_))
 go_ret;exact⟨rfl,zb a d⟩
theorem Gl (b:zA)(f:Option Addr)(g:Nat)(w:World) :
  Calls prog 86 #[.agg (b,f,g)] w λe w'=>e=.returned (.bool (decide (CB b)))/\Below w w w':=by
 obtain⟨c,i⟩:=nM (decide (CB b));rw[← i];have d:=hI i;clear i
 by_cases h1:b.C=1
 ·have j:(b.C == 1)=true:=by simpa using h1
  have a:Hid (c=true):=by rw[d.out];exact Jd (.inl h1)
  clear h1;go_enter func86,ntmps86;go_wp2;go_ret;exact⟨by rw[a.out];rfl,zd bZ _⟩
 ·have j:(b.C == 1)=false:=by simpa using h1
  by_cases h2:b.C=2
  ·have k:(b.C == 2)=true:=by simpa using h2
   have a:Hid (c=true):=by rw[d.out];exact Jd (.inr h2)
   clear h1 h2;go_enter func86,ntmps86;go_wp2;go_ret;exact⟨by rw[a.out];rfl,zd bZ _⟩
  ·have k:(b.C == 2)=false:=by simpa using h2
   have a:Hid (c=false):=by rw[d.out];exact Jc (λh=>by rcases h with h|h;exact h1 h;exact h2 h)
   clear h1 h2;go_enter func86,ntmps86;go_wp2;go_ret;exact⟨by rw[a.out];rfl,zd bZ _⟩
theorem DH:La x b (k+1)↔La x b k∨((x.L k).e=b.e/\(x.L k).z=b.v) :=
 ⟨λ⟨j,a,h⟩=>if e:j=k then .inr (by subst e;exact h) else .inl ⟨j,by omega,h⟩,λh=>by rcases h with⟨j,a,h⟩|h;exact⟨j,by omega,h⟩;exact⟨k,by omega,h⟩⟩
theorem Cg:NT x b (k+1)↔NT x b k∨((x.K k).e=b.e/\(x.K k).f=b.f/\(x.K k).j=b.j) :=
 ⟨λ⟨j,a,h⟩=>if e:j=k then .inr (by subst e;exact h) else .inl ⟨j,by omega,h⟩,λh=>by rcases h with⟨j,a,h⟩|h;exact⟨j,by omega,h⟩;exact⟨k,by omega,h⟩⟩
theorem AD {s:qe}:NU s x b (k+1)↔NU s x b k∨PD s b (x.I k) :=
 ⟨λ⟨j,a,h⟩=>if e:j=k then .inr (by subst e;exact h) else .inl ⟨j,by omega,h⟩,λh=>by rcases h with⟨j,a,h⟩|h;exact⟨j,by omega,h⟩;exact⟨k,by omega,h⟩⟩
theorem Oo (s:qe)(la ca:Option Addr)(lc cc:Nat)(x:zw)(C A B:Option Addr)(P N O:Nat)(b:zA)(K:Option Addr)(M:Nat)(w:World)
  (d0:x.r<=1048576) (d5:x.m<=1048576) (d6:x.t<=1048576) (a0:zJ w ca s.M) (a3:qx w C x.r x.K) (a1:qn w A x.m x.I) (a2:qC w B x.t x.L)
  (G:∀ j,j<x.m->0<=(x.I j).H/\(x.I j).H<s.M.n) :
  Calls prog 88 #[.agg (s,la,lc,ca,cc),.agg #[(C,x.r,P),(A,x.m,N),(B,x.t,O)],.agg (b,K,M)] w λe w'=>qH (CD s x b) e/\Below w w w':=by
 have a6:=hI a0;have b0:=hI a3;have a8:=hI a1;have a9:=hI a2;have a7:=hI G;clear a0 a3 a1 a2 G;go_enter func88,ntmps88;go_wp2;obtain⟨W,T⟩:=nM ((((w.alloc (.cells (s,la,lc,ca,cc) 140)).alloc (.cells #[(C,x.r,P),(A,x.m,N),(B,x.t,O)] 145)).alloc (.cells (b,K,M) 150)).alloc (.cells #[b.v,b.f,b.j,b.w,b.h,b.x] 45));have bS:W.heap[w.heap.size]?=some (.cells (s,la,lc,ca,cc) 140 (0,0)):=by rw[T];exact zg (zg (zg (Jb w _) _) _) _
 have bL:W.heap[w.heap.size+1]?=some (.cells #[(C,x.r,P),(A,x.m,N),(B,x.t,O)] 145 (0,0)):=by rw[T];exact zg (zg (by simpa using Jb (w.alloc _) _) _) _
 have bB:W.heap[w.heap.size+1+1]?=some (.cells (b,K,M) 150 (0,0)):=by rw[T];exact zg (by simpa using Jb ((w.alloc _).alloc _) _) _
 have E:W.heap[w.heap.size+1+1+1]?=some (.cells #[b.v,b.f,b.j,b.w,b.h,b.x] 45 (0,0)):=by rw[T];simpa using Jb (((w.alloc _).alloc _).alloc _) _
 have D:Below w w W:=by rw[T];exact zd (zd (zd (zd bZ _) _) _) _
 rw[← T];clear T;have H:∀ y,¬ La y b 0:=λy ⟨j,hj,_⟩=>absurd hj (Nat.not_lt_zero _)
 go_loopw [8,10,22] (λv _ i wr=>∃ (k:Nat) (c:Bool),k<=x.t/\i=int i64 k/\v=.bool c/\(c=true↔La x b k)/\Below W W wr) (λ_ _ i _=>x.t - (intOf i).toNat)
 case atStart=>exact⟨0,_,Jq _,rfl,rfl,⟨λh=>(by cases h),λh=>absurd h (H x)⟩,bZ⟩
 case round =>
  obtain⟨k,c,hk,rfl,rfl,g,a⟩:=hrel;have U:=hI g;clear g;have L:=aC (za bB a) 1;have b3:=aC (za E a) 0
  by_cases hlt:k<x.t
  ·obtain⟨sb,so,rfl,z,F⟩:=a9 k hlt
   have r:=Ja w _ z;have d1:=tR (zb D a) z r;have d2:=tR (zb D a) F r;clear z F
   cases c with
   |true =>
    go_wp2;go_roundw
    case rel=>exact⟨_,_,by omega,by go_num,rfl,⟨λ_=>DH.2 (.inl (U.1 rfl)),λ_=>rfl⟩,zd a _⟩
    case measure=>simp[intOf];omega
   |false =>
    have f:Hid (¬ _):=λh=>by have:=U.2 h;cases this
    clear U
    by_cases e1:(x.L k).e=b.e
    ·by_cases e2:(x.L k).z=b.v
     ·have J:=hI (DH.2 (.inr ⟨e1,e2⟩))
      go_wp2;go_roundw
      case rel=>exact⟨_,_,by omega,by go_num,rfl,⟨λ_=>J,λ_=>rfl⟩,zd a _⟩
      case measure=>simp[intOf];omega
     ·have d:Hid (¬ _):=λh=>by rcases DH.1 h with h|h;exact f h;exact e2 h.2
      go_wp2;go_roundw
      case rel=>exact⟨_,_,by omega,by go_num,rfl,⟨λh=>(by cases h),λh=>absurd h d⟩,zd a _⟩
      case measure=>simp[intOf];omega
    ·have d:Hid (¬ _):=λh=>by rcases DH.1 h with h|h;exact f h;exact e1 h.1
     go_wp2;go_roundw
     case rel=>exact⟨_,_,by omega,by go_num,rfl,⟨λh=>(by cases h),λh=>absurd h d⟩,zd a _⟩
     case measure=>simp[intOf];omega
  ·obtain rfl:k=x.t:=by omega
   clear L b3;have a4:=hI a;have I:=hI D;have b1:=bC (za bL a) 0;have X:=bC (za E a) 1;clear a D hk hlt H;obtain⟨z1,n⟩:=nM ((b.f == 0));have S:=n.symm;have l:Hid (z1=true↔b.f=0):=by show _↔_;rw[n,beq_iff_eq]
   clear n;go_wp2;go_loopw [11,13,43] (λv _ i wq=>∃ (k:Nat) (c:Bool),k<=x.r/\i=int i64 k/\v=.bool c/\(c=true↔b.f=0∨NT x b k)/\Below W W wq) (λ_ _ i _=>x.r - (intOf i).toNat)
   case atStart=>exact⟨0,z1,Jq _,rfl,rfl,⟨λh=>.inl (l.1 h),λh=>by rcases h with h|⟨j,hj,_⟩;exact l.2 h;exact absurd hj (Nat.not_lt_zero _)⟩,a4⟩
   case round =>
    obtain⟨k,c2,hk,rfl,rfl,g,a⟩:=hrel;have t:=hI g;clear g b1 X S l
    by_cases hlt:k<x.r
    ·obtain⟨sb,so,rfl,z,F,Z,g4⟩:=b0 k hlt
     have r:=Ja w _ z;have m:=zb I a;obtain⟨d1,d2,d3,d4⟩:=OP m z F Z g4 r;have L:=aC (za bB a) 1;have X:=aC (za E a) 1;have b8:=aC (za E a) 2;clear z F Z g4 m
     cases c2 with
     |true =>
      go_wp2;go_roundw
      case rel=>exact⟨_,_,by omega,by go_num,rfl,⟨λ_=>(t.1 rfl).imp id (λh=>Cg.2 (.inl h)),λ_=>rfl⟩,zd a _⟩
      case measure=>simp[intOf];omega
     |false =>
      have f:Hid (¬ _):=λh=>by have:=t.2 h;cases this
      clear t
      by_cases e1:(x.K k).e=b.e
      ·have Q:((x.K k).e == b.e)=true:=by simpa using e1
       by_cases e2:(x.K k).f=b.f
       ·have p:((x.K k).f == b.f)=true:=by simpa using e2
        by_cases e3:(x.K k).j=b.j
        ·have R:((x.K k).j == b.j)=true:=by simpa using e3
         have J:Hid (b.f=0∨_):=.inr (Cg.2 (.inr ⟨e1,e2,e3⟩));clear e1 e2 e3;go_wp2;go_roundw
         case rel=>exact⟨_,_,by omega,by go_num,rfl,⟨λ_=>J,λ_=>rfl⟩,zd a _⟩
         case measure=>simp[intOf];omega
        ·have R:((x.K k).j == b.j)=false:=by simpa using e3
         have d:Hid (¬ (_∨_)):=λh=>by rcases h with h|h;exact f (.inl h);rcases Cg.1 h with h|h;exact f (.inr h);exact e3 h.2.2
         clear e1 e2 e3;go_wp2;go_roundw
         case rel=>exact⟨_,_,by omega,by go_num,rfl,⟨λh=>(by cases h),λh=>absurd h d⟩,zd a _⟩
         case measure=>simp[intOf];omega
       ·have p:((x.K k).f == b.f)=false:=by simpa using e2
        have d:Hid (¬ (_∨_)):=λh=>by rcases h with h|h;exact f (.inl h);rcases Cg.1 h with h|h;exact f (.inr h);exact e2 h.2.1
        clear e1 e2;go_wp2;go_roundw
        case rel=>exact⟨_,_,by omega,by go_num,rfl,⟨λh=>(by cases h),λh=>absurd h d⟩,zd a _⟩
        case measure=>simp[intOf];omega
      ·have Q:((x.K k).e == b.e)=false:=by simpa using e1
       have d:Hid (¬ (_∨_)):=λh=>by rcases h with h|h;exact f (.inl h);rcases Cg.1 h with h|h;exact f (.inr h);exact e1 h.1
       clear e1;go_wp2;go_roundw
       case rel=>exact⟨_,_,by omega,by go_num,rfl,⟨λh=>(by cases h),λh=>absurd h d⟩,zd a _⟩
       case measure=>simp[intOf];omega
    ·obtain rfl:k=x.r:=by omega
     have a5:=hI a;have b2:=bC (za bL a) 1;have Y:=bC (za E a) 3;clear a hk hlt;obtain⟨z1,n⟩:=nM ((b.w == 0));have S:=n.symm;have l:Hid (z1=true↔b.w=0):=by show _↔_;rw[n,beq_iff_eq]
     clear n;go_wp2;go_loopw [14,16,76] (λv _ i wq=>∃ (k:Nat) (c:Bool),k<=x.m/\i=int i64 k/\v=.bool c/\(c=true↔b.w=0∨NU s x b k)/\Below W W wq) (λ_ _ i _=>x.m - (intOf i).toNat)
     case atStart=>exact⟨0,z1,Jq _,rfl,rfl,⟨λh=>.inl (l.1 h),λh=>by rcases h with h|⟨j,hj,_⟩;exact l.2 h;exact absurd hj (Nat.not_lt_zero _)⟩,a5⟩
     case round =>
      obtain⟨k,c3,hk,rfl,rfl,g,a⟩:=hrel;have u:=hI g;clear g b2 Y S l
      by_cases hlt:k<x.m
      ·obtain⟨sb,so,rfl,z,F,Z,g4⟩:=a8 k hlt
       have r:=Ja w _ z;have m:=zb I a;obtain⟨d1,d2,d3,d4⟩:=OP m z F Z g4 r;obtain⟨i0,i1⟩:=a7 k hlt;obtain⟨cb,co,rfl,k1,k2⟩:=a6 (x.I k).H.toNat oM;have b7:=Ja w _ k1;have c1:=λo=>(((m.alloc m.size o).cell b7)).trans k1
       have L:=aC (za bB a) 1;have Y:=aC (za E a) 3;obtain⟨q,hq⟩:=nM b.h;have V:=hI hq;have b9:∀ o,(wr.alloc o).cell? _=some (.bool q):=λo=>by rw[hq];exact bC (zg (za E a) o) 4
       clear hq;have c0:=aC (za E a) 5;have c9:=aC (za bS a) 6;clear z F Z g4 k1 k2 m
       cases c3 with
       |true =>
        go_wp2;go_quiet (fail);go_wp2;go_roundw
        case rel=>exact⟨_,_,by omega,by go_num,rfl,⟨λ_=>(u.1 sM).imp id (λh=>AD.2 (.inl h)),λ_=>rfl⟩,dN (zd a _) _⟩
        case measure=>simp[intOf];omega
       |false =>
        have f:Hid (¬ _):=λh=>by have:=u.2 h;cases this
        clear u
        by_cases e1:(x.I k).e=b.e
        ·have Q:((x.I k).e == b.e)=true:=by simpa using e1
         by_cases e2:(x.I k).h=q
         ·have p:((x.I k).h == q)=true:=by simpa using e2
          by_cases e3:s.M.A (x.I k).H.toNat=b.w
          ·have R:(s.M.A (x.I k).H.toNat == b.w)=true:=by simpa using e3
           by_cases e4:q=true
           ·have b4:=e2.trans e4
            have J:Hid (b.w=0∨_):=.inr (AD.2 (.inr ⟨e1,e2.trans V,e3,.inl (V.symm.trans e4)⟩));clear e1 e2 e3 p;go_wp2;go_quiet (fail);go_wp2;go_roundw
            case rel=>exact⟨_,_,by omega,by go_num,rfl,⟨λ_=>J,λ_=>rfl⟩,dN (zd a _) _⟩
            case measure=>simp[intOf];omega
           ·have b5:q=false:=by cases h:q;rfl;exact absurd h e4
            have b4:=e2.trans b5
            by_cases e5:(x.I k).z=b.x
            ·have b6:((x.I k).z == b.x)=true:=by simpa using e5
             have J:Hid (b.w=0∨_):=.inr (AD.2 (.inr ⟨e1,e2.trans V,e3,.inr e5⟩));clear e1 e2 e3 e4 e5 p;go_wp2;go_quiet (fail);go_wp2;go_roundw
             case rel=>exact⟨_,_,by omega,by go_num,rfl,⟨λ_=>J,λ_=>rfl⟩,dN (zd a _) _⟩
             case measure=>simp[intOf];omega
            ·have b6:((x.I k).z == b.x)=false:=by simpa using e5
             have d:Hid (¬ (_∨_)):=λh=>by rcases h with h|h;exact f (.inl h);rcases AD.1 h with h|h;exact f (.inr h);exact(by rcases h.2.2.2 with h|h;exact e4 (V.trans h);exact e5 h)
             clear e1 e2 e3 e4 e5 p;go_wp2;go_quiet (fail);go_wp2;go_roundw
             case rel=>exact⟨_,_,by omega,by go_num,rfl,⟨λh=>(by cases h),λh=>absurd h d⟩,dN (zd a _) _⟩
             case measure=>simp[intOf];omega
          ·have R:(s.M.A (x.I k).H.toNat == b.w)=false:=by simpa using e3
           have d:Hid (¬ (_∨_)):=λh=>by rcases h with h|h;exact f (.inl h);rcases AD.1 h with h|h;exact f (.inr h);exact e3 h.2.2.1
           clear e1 e2 e3;go_wp2;go_quiet (fail);go_wp2;go_roundw
           case rel=>exact⟨_,_,by omega,by go_num,rfl,⟨λh=>(by cases h),λh=>absurd h d⟩,dN (zd a _) _⟩
           case measure=>simp[intOf];omega
         ·have p:((x.I k).h == q)=false:=by simpa using e2
          have d:Hid (¬ (_∨_)):=λh=>by rcases h with h|h;exact f (.inl h);rcases AD.1 h with h|h;exact f (.inr h);exact e2 (h.2.1.trans V.symm)
          clear e1 e2;go_wp2;go_quiet (fail);go_wp2;go_roundw
          case rel=>exact⟨_,_,by omega,by go_num,rfl,⟨λh=>(by cases h),λh=>absurd h d⟩,dN (zd a _) _⟩
          case measure=>simp[intOf];omega
        ·have Q:((x.I k).e == b.e)=false:=by simpa using e1
         have d:Hid (¬ (_∨_)):=λh=>by rcases h with h|h;exact f (.inl h);rcases AD.1 h with h|h;exact f (.inr h);exact e1 h.1
         clear e1;go_wp2;go_quiet (fail);go_wp2;go_roundw
         case rel=>exact⟨_,_,by omega,by go_num,rfl,⟨λh=>(by cases h),λh=>absurd h d⟩,dN (zd a _) _⟩
         case measure=>simp[intOf];omega
      ·obtain rfl:k=x.m:=by omega
       have HF:=hI (zb I a);have HS:Hid (CD s x b↔c=true/\c2=true/\c3=true):=by
        show _↔_
        unfold CD;rw[U.out,t.out,u.out]
       clear a hk hlt U t u
       cases c with
       |false =>
        go_wp2;go_ret;exact⟨zh (λh=>by have h:=HS.1 h;simp at h),HF⟩
       |true =>
        cases c2 with
        |false =>
         go_wp2;go_ret;exact⟨zh (λh=>by have h:=HS.1 h;simp at h),HF⟩
        |true =>
         cases c3 with
         |false =>
          go_wp2;go_ret;exact⟨zh (λh=>by have h:=HS.1 h;simp at h),HF⟩
         |true =>
          go_wp2;go_ret;exact⟨zN (HS.2 sM),HF⟩
def CH (b:zA)(y:qD):Prop:=¬ CB b∨(y.d=4/\b.C≠1)∨(y.d=8/\(b.C≠1∨y.D<=b.y))
def DI (R m:Nat)(x:zY)(y:qD)(a:Int):Prop:=(R<=m->a=3)/\(m<R->CH (x.u m) y->a=4)/\(m<R->¬ CH (x.u m) y->a=0)
theorem Co (J H n I:Option Addr)(N M R S P O Q m:Nat)(x:zY)(y:qD)(w:World)(hR:R<=1048576)(b5:m<=1048576)(a8:y.k=(m:Int)+1)(T:qL w n R x.u) :
  Calls prog 163 #[.agg #[(J,N,S),(H,M,P),(n,R,O)],.agg (y,I,Q)] w λe w'=>(∃ code:Int,e=.returned code/\DI R m x y code)/\Below w.heap.size w w':=by
 have a2:=hI T;clear T;rw[a8];have a:Below _ w ((w.alloc (.cells #[(J,N,S),(H,M,P),(n,R,O)] 38)).alloc (.cells #[y.d,y.j1,int i64 ((m:Int)+1),(I,y.c,Q),y.v,y.f,y.j,y.w,y.h,y.x,y.y,y.D] 47)):=zd (zd bZ _) _;have K:=Cs a;have B:=Dt a
 by_cases hlt:m<R
 case neg =>
  have HC:DI R m x y 3:=⟨λ_=>rfl,λh=>absurd h hlt,λh=>absurd h hlt⟩
  have d0:decide ((R:Int)<(m:Int)+1)=true:=Jd (by omega)
  have d1:(R:Int)<(m:Int)+1:=by omega
  go_enter func163,ntmps163;go_upto_region 1 with fail;generalize (w.alloc _).alloc _=V at a K B ⊢;have f2:=zf K 2 _ rfl;have o2:=zf B 2 _ rfl;go_wp2;go_ret;exact⟨⟨3,rfl,HC⟩,a⟩
 obtain⟨Cc,X,U⟩:=a2;obtain⟨gb,off,l,d⟩:=X m hlt;have E:=hI l;clear l;obtain⟨g,f,t,g1,s1⟩:=U m hlt;obtain⟨b,u⟩:∃ b,b=x.u m:=⟨_,rfl⟩;rw[← u] at t;have a1:=hI u.symm;rw[t] at d;have c:=Ja w _ (d 0 (by decide))
 have d0:decide ((R:Int)<(m:Int)+1)=false:=Jc (by omega)
 have i0:(0:Int)<=(m:Int):=by omega
 have i1:(m:Int)<(R:Int):=by omega
 have b1:IntKind.i64.wrap ((m:Int)+1 - 1)=(m:Int):=by rw[Jk];omega
 have j:Hid (∀ q,(_↔_)->DI R m x y (if q=true then _ else 0)):=λq hq=>by
  unfold DI;rw[a1.out];exact⟨λh=>absurd hlt (by omega),λ_ h=>Jf (hq.2 h),λ_ h=>Je (λe=>h (hq.1 e))⟩
 go_enter func163,ntmps163;go_upto_region 1 with fail;generalize (w.alloc _).alloc _=V at a K B ⊢;have f2:=zf K 2 _ rfl;rw[E.out] at f2;have o2:=zf B 2 _ rfl;have c0:V.cell? _=some (.int _ _):=(a.cell (p:=⟨gb,off+_,_⟩) c).trans (d 0 (by decide))
 have c1:V.cell? _=some (.int _ _):=(a.cell (p:=⟨gb,_+1,_⟩) c).trans (d 1 (by decide))
 have c2:V.cell? _=some (.string _):=(a.cell (p:=⟨gb,_+2,_⟩) c).trans (d 2 (by decide))
 have c3:V.cell? _=some (.slice g _ f):=(a.cell (p:=⟨gb,_+3,_⟩) c).trans (d 3 (by decide))
 have c4:V.cell? _=some (.int _ _):=(a.cell (p:=⟨gb,_+4,_⟩) c).trans (d 4 (by decide))
 have c5:V.cell? _=some (.int _ _):=(a.cell (p:=⟨gb,_+5,_⟩) c).trans (d 5 (by decide))
 have c6:V.cell? _=some (.int _ _):=(a.cell (p:=⟨gb,_+6,_⟩) c).trans (d 6 (by decide))
 have c7:V.cell? _=some (.int _ _):=(a.cell (p:=⟨gb,_+7,_⟩) c).trans (d 7 (by decide))
 have c8:V.cell? _=some (.bool _):=(a.cell (p:=⟨gb,_+8,_⟩) c).trans (d 8 (by decide))
 have c9:V.cell? _=some (.int _ _):=(a.cell (p:=⟨gb,_+9,_⟩) c).trans (d 9 (by decide))
 have a3:V.cell? _=some (.int _ _):=(a.cell (p:=⟨gb,_+10,_⟩) c).trans (d 10 (by decide))
 have a4:V.cell? _=some (.int _ _):=(a.cell (p:=⟨gb,_+11,_⟩) c).trans (d 11 (by decide))
 have a5:V.cell? _=some (.int _ _):=(a.cell (p:=⟨gb,_+12,_⟩) c).trans (d 12 (by decide))
 have C:=Jb V (.cells (b,g,f) 150);have pX:=Kv C;have o:=zg B (.cells (b,g,f) 150);clear d t g1 s1 X U u;go_upto_region 4 with fail;have s:=zb a pX;generalize V.heap.size=xb at C ⊢;generalize V.alloc _=W at C pX o s ⊢;clear c0 c1 c2 c3 c4 c5 c6 c7 c8 c9 a3 a4 a5 f2 o2 K B a pX i0 i1 b1 d0;obtain⟨y0,y1,y2,y3,y4,y5,y6,y7,y8,y9,b2,b3,b4⟩:=Cl C;obtain⟨A,v⟩:∃ A,A=(b.C == 1):=⟨_,rfl⟩;have a9:=v.symm;have G:Hid (A=true↔b.C=1):=by rw[v];exact beq_iff_eq
 clear v;obtain⟨D,z⟩:∃ D,D=decide (CB b):=⟨_,rfl⟩;have F:Hid (D=true↔CB b):=by rw[z];exact decide_eq_true_iff
 have cl:=Gl b g f W;rw[← z] at cl;clear z;go_wp2_with fail;refine cl.mono ?_;clear cl;rintro e w4 ⟨rfl,i⟩;have L:=za C i;have r:=za o i;have a0:=hI (zb s i);clear y0 y1 y2 y3 y4 y5 y6 y7 y8 y9 b2 b3 b4 C o s i a9;have b7:=zf L 11 _ rfl;have o0:=zf r 0 _ rfl;have b6:=zf r 11 _ rfl;obtain⟨Y,a6⟩:∃ k,(y.d == 4)=k:=⟨_,rfl⟩;obtain⟨Z,a7⟩:∃ k,(y.d == 8)=k:=⟨_,rfl⟩;obtain⟨un,b0⟩:∃ k,decide (y.D<=b.y)=k:=⟨_,rfl⟩;have HQ:Hid ((!D || (Y && !A) || (Z && (!A || un)))=true↔CH b y):=by
  show _↔_
  have e4:Y=true↔y.d=4:=by rw[← a6];exact beq_iff_eq
  have e8:Z=true↔y.d=8:=by rw[← a7];exact beq_iff_eq
  have eu:un=true↔y.D<=b.y:=by rw[← b0];exact decide_eq_true_iff
  have el:=F.out;have es:=G.out;unfold CH;rw[← el,← e4,← e8,← eu,Ne,← es]
  cases D <;> cases Y <;> cases Z <;> cases A <;> cases un <;> simp
 clear L r F G;have HX:=hI (j _ HQ);clear HQ j
 cases D <;> cases Y <;> cases Z <;> cases A <;> cases un
 all_goals
  go_wp2;go_ret;exact⟨⟨_,rfl,HX⟩,a0⟩
theorem az (pe len hei cl:Int)(all:Bool)(be:Int)(w:World) :
  (binOp .eql 45 (.agg #[pe,len,hei,cl,all,be]) (.agg #[(),(),(),(),.bool false,()])).run prog w=.ok (.bool (PZ pe len hei cl all be)) w:=by
 unfold PZ Fy
 by_cases h1:pe=0
 ·subst h1
  by_cases h2:len=0
  ·subst h2
   by_cases h3:hei=0
   ·subst h3
    by_cases h4:cl=0
    ·subst h4
     cases all with
     |false =>
      by_cases h5:be=0
      ·subst h5
       go_simp
      ·go_simp
     |true=>go_simp
    ·go_simp
   ·go_simp
  ·go_simp
 ·go_simp
theorem CJ (pe len hei cl:Int)(all:Bool)(be:Int)(w:World) :
  Calls prog 240 #[.agg #[pe,len,hei,cl,all,be]] w λe w'=>e=.returned (.bool (decide (Zc ⟨pe,len,hei,cl,all,be⟩)))/\Below w w w':=by
 refine(QX pe len hei cl all be w).mono ?_;rintro e w' ⟨⟨b,rfl,a⟩,c⟩;refine⟨?_,c⟩
 congr 2
 rw[Bool.eq_iff_iff,a,decide_eq_true_eq]
theorem SQ (s:ByteArray):(if Ap k then decide (Z7 s) else s.toList.isEmpty)=decide (AH k s):=by
 by_cases c:k=2∨k=3∨k=7
 ·have e:Ap k=true:=Jd c
  rw[e,Jf rfl];have c2:(k:Int)=2∨(k:Int)=3∨(k:Int)=7:=oM;rw[Bool.eq_iff_iff,decide_eq_true_eq,decide_eq_true_eq];unfold AH;rw[Jf c2]
 ·have e:Ap k=false:=Jc c
  rw[e,Iv s (show ¬ ((k:Int)=2∨(k:Int)=3∨(k:Int)=7) by omega)]
  rfl
theorem bc (n:Int):(if Q8 k then decide (In n 1 30) else (n == 0))=decide (Bv k n):=by
 by_cases c:4<=k/\k<=8
 ·have e:Q8 k=true:=Jd c
  have c2:In (k:Int) 4 8:=⟨by omega,by omega⟩
  rw[e,Jf rfl,Bool.eq_iff_iff,decide_eq_true_eq,decide_eq_true_eq];unfold Bv;rw[Jf c2]
 ·have e:Q8 k=false:=Jc c
  rw[e,MX n (show ¬ In (k:Int) 4 8 by unfold In;omega)]
  rfl
theorem bd (n:Nat):(if decide (0<ZL k) then decide (In (n:Int) 1 (ZL k)) else ((n:Int) == 0))=decide (Zj k n):=by
 by_cases c:k=1∨k=2∨k=3∨k=5
 ·have e:ZL k=3:=Jf c
  have c2:zM (k:Int):=by unfold zM;omega
  rw[e,show decide _=true from rfl,Jf rfl,Bool.eq_iff_iff,decide_eq_true_eq,decide_eq_true_eq];unfold Zj In;rw[Jf c2]
  omega
 ·have c2:¬ zM (k:Int):=by unfold zM;omega
  by_cases c9:k=9
  ·have e:ZL k=1:=by unfold ZL;rw[Je c,Jf c9]
   rw[e,show decide _=true from rfl,Jf rfl,Bool.eq_iff_iff,decide_eq_true_eq,decide_eq_true_eq];unfold Zj In;rw[Je c2,Jf oM]
   omega
  ·have e:ZL k=0:=by unfold ZL;rw[Je c,Je c9]
   rw[e,show decide _=false from rfl,Je dC,PC,Bool.eq_iff_iff,decide_eq_true_eq,decide_eq_true_eq];unfold Zj;rw[Je c2,Je oM]
theorem SR {q:Bool}{p:ZP}(h:q=true↔Zc p):(if QI k then q else PZ p.v p.f p.j p.w p.h p.x)=decide (Zr k p):=by
 by_cases c:k=1∨k=2∨k=3∨k=5
 ·have e:QI k=true:=Jd c
  rw[e,Jf rfl];exact(KX (show zM (k:Int) by unfold zM;omega) h).symm
 ·have e:QI k=false:=Jc c
  rw[e,Je dC];exact KY (show ¬ zM (k:Int) by unfold zM;omega)
theorem SS (u:Int):(if Bi k then decide (In u 0 10000) else (u == 0))=decide (AT k u):=by
 by_cases c:k=2
 ·have e:Bi k=true:=Jd c
  rw[e,Jf rfl,Bool.eq_iff_iff,decide_eq_true_eq,decide_eq_true_eq];unfold AT In
  omega
 ·have e:Bi k=false:=Jc c
  rw[e,Je dC,Bool.eq_iff_iff,beq_iff_eq,decide_eq_true_eq];unfold AT
  omega
theorem ip (u:Int):(if GN k then decide (In u 0 10000) else (u == 0))=decide (DZ k u):=by
 by_cases c:k=6∨k=8
 ·have e:GN k=true:=Jd c
  rw[e,Jf rfl,Bool.eq_iff_iff,decide_eq_true_eq,decide_eq_true_eq];unfold DZ In
  omega
 ·have e:GN k=false:=Jc c
  rw[e,Je dC,Bool.eq_iff_iff,beq_iff_eq,decide_eq_true_eq];unfold DZ
  omega
theorem EC (cs:List Value)(x:qD)(w:World)(J:x.j1.size<=1000000000000000)(h:qD.Is w cs x)(hF:Ze w) :
  Calls prog 194 #[.agg cs.toArray] w λe w'=>e=.returned (.bool (decide (QE x)))/\Below w w w':=by
 obtain⟨H,I,rfl,_,_⟩:=h;obtain⟨V,hV⟩:=nM (decide (QE x));rw[← hV];have C:Hid (V=true↔QE x):=by show V=true↔QE x;rw[hV,decide_eq_true_eq]
 clear hV;have a:Hid (Ze w):=hF;clear hF;have qP:=az x.v x.f x.j x.w x.h x.x;have c:Below w w (w.alloc (.cells (x,H,I) 47)):=zd bZ _;have b0:=Jb w (.cells (x,H,I) 47);go_enter func194,ntmps194;go_wp2_with fail;generalize w.alloc (.cells (x,H,I) 47)=W at c b0 ⊢;obtain⟨t0,K⟩:=nM (decide (In x.d 1 9));have G:Hid (t0=true↔In x.d 1 9):=by show t0=true↔In x.d 1 9;rw[K,decide_eq_true_eq]
 refine(zx _ _ _ _).mono ?_;rw[← K];clear K;rintro e v ⟨rfl,hv⟩;have hv:=hv.symm;subst hv
 cases t0 with
 |false =>
  have m:Hid (V=false):=Bool.eq_false_iff.2 (λh=>by have:=G.2 (C.1 h).1;cases this)
  go_wp2;go_ret;exact⟨by rw[m.out];rfl,c⟩
 |true =>
 have E:Hid (In x.d 1 9):=G.1 rfl;obtain⟨k,hk⟩:∃ k:Nat,x.d=(k:Int):=⟨x.d.toNat,by have:=E.1;omega⟩
 have r:Hid (x.d=(k:Int)):=hk;have a9:1<=k/\k<=9:=by have:=E.out;unfold In at this;omega
 clear G;have t0:W.cell? (9,k*7)=some (.bool (Ap k)):=(c.cell (p:=(9,k*7)) a.lt).trans (a k oM).1;have t1:W.cell? (9,k*7+1)=some (.bool (Q8 k)):=(c.cell (p:=(9,k*7+1)) a.lt).trans (a k oM).2.1;have t2:W.cell? (9,k*7+2)=some (ZL k):=(c.cell (p:=(9,k*7+2)) a.lt).trans (a k oM).2.2.1;have t3:W.cell? (9,k*7+3)=some (.bool (QI k)):=(c.cell (p:=(9,k*7+3)) a.lt).trans (a k oM).2.2.2.1;have t4:W.cell? (9,k*7+4)=some (.bool (Bi k)):=(c.cell (p:=(9,k*7+4)) a.lt).trans (a k oM).2.2.2.2.1;have t5:W.cell? (9,k*7+5)=some (.bool (GN k)):=(c.cell (p:=(9,k*7+5)) a.lt).trans (a k oM).2.2.2.2.2.1;have t6:W.cell? (9,k*7+6)=some (.bool (Dp k)):=(c.cell (p:=(9,k*7+6)) a.lt).trans (a k oM).2.2.2.2.2.2;have y0:W.cell? (w.heap.size,0)=some (k:Int):=by rw[← hk];exact bC b0 0
 have a7:=n0 k;have a8:(k:Int)<10:=oM;have b:=zg b0 (.cells #[.bool (Ap k),.bool (Q8 k),(ZL k),.bool (QI k),.bool (Bi k),.bool (GN k),.bool (Dp k)] 263);have d:=Jb W (.cells #[.bool (Ap k),.bool (Q8 k),(ZL k),.bool (QI k),.bool (Bi k),.bool (GN k),.bool (Dp k)] 263);have j:=zd c (.cells #[.bool (Ap k),.bool (Q8 k),(ZL k),.bool (QI k),.bool (Bi k),.bool (GN k),.bool (Dp k)] 263);clear hk;go_upto_region 4 with fail;generalize hFx:W.heap.size=Fx at d ⊢;generalize W.alloc (.cells #[.bool (Ap k),.bool (Q8 k),(ZL k),.bool (QI k),.bool (Bi k),.bool (GN k),.bool (Dp k)] 263)=W1 at j b d ⊢;clear y0 t0 t1 t2 t3 t4 t5 t6 a7 a8 c b0 hFx;have lO:=zD b;have lF:=zD d;have z1:=gC b 1;have z2:=gC b 2;have z3:=gC b 3;have z4:=gC b 4;have z5:=gC b 5;have z6:=gC b 6;have z7:=gC b 7;have z8:=gC b 8;have z9:=gC b 9;have b1:=gC b 10;have b2:=gC b 11;have f0:=gC d 0;have f1:=gC d 1;have f2:=gC d 2;have f3:=gC d 3;have f4:=gC d 4;have f5:=gC d 5;obtain⟨f,T⟩:∃ t,decide (Z7 x.j1)=t:=⟨_,rfl⟩;have i:Hid (decide (Z7 x.j1)=f):=T;obtain⟨l,U⟩:∃ t,decide (In x.k 1 30)=t:=⟨_,rfl⟩;have n:Hid (decide (In x.k 1 30)=l):=U;obtain⟨o,X⟩:∃ t,decide (In (x.c:Int) 1 (ZL k))=t:=⟨_,rfl⟩;have s:Hid (decide (In (x.c:Int) 1 (ZL k))=o):=X;obtain⟨q,Y⟩:∃ t,decide (Zc ⟨x.v,x.f,x.j,x.w,x.h,x.x⟩)=t:=⟨_,rfl⟩;have u:Hid (decide (Zc ⟨x.v,x.f,x.j,x.w,x.h,x.x⟩)=q):=Y;obtain⟨y,Z⟩:∃ t,decide (In x.y 0 10000)=t:=⟨_,rfl⟩;have z:Hid (decide (In x.y 0 10000)=y):=Z;obtain⟨A,a0⟩:∃ t,decide (In x.D 0 10000)=t:=⟨_,rfl⟩;have F:Hid (decide (In x.D 0 10000)=A):=a0;clear T U X Y Z a0 b d;have N:Hid ((if Ap k then f else x.j1.toList.isEmpty)=true↔AH x.d x.j1):=by
  show(if Ap k then f else x.j1.toList.isEmpty)=true↔AH x.d x.j1
  rw[← i.out,SQ x.j1,decide_eq_true_eq,r.out]
 have O:Hid ((if Q8 k then l else (x.k == 0))=true↔Bv x.d x.k):=by
  show(if Q8 k then l else (x.k == 0))=true↔Bv x.d x.k
  rw[← n.out,bc x.k,decide_eq_true_eq,r.out]
 have P:Hid ((if decide (0<ZL k) then o else ((x.c:Int) == 0))=true↔Zj x.d x.c):=by
  show(if decide (0<ZL k) then o else ((x.c:Int) == 0))=true↔Zj x.d x.c
  rw[← s.out,bd x.c,decide_eq_true_eq,r.out]
 have Q:Hid ((if QI k then q else (PZ x.v x.f x.j x.w x.h x.x))=true↔Zr x.d x.p):=by
  show(if QI k then q else (PZ x.v x.f x.j x.w x.h x.x))=true↔Zr x.d x.p
  have h3:(if QI k then q else PZ x.v x.f x.j x.w x.h x.x)=decide (Zr (k:Int) x.p):=SR (p:=x.p) (show q=true↔Zc x.p by rw[← u.out,decide_eq_true_eq];exact Iff.rfl)
  rw[h3,decide_eq_true_eq,r.out]
 have R:Hid ((if Bi k then y else (x.y == 0))=true↔AT x.d x.y):=by
  show(if Bi k then y else (x.y == 0))=true↔AT x.d x.y
  rw[← z.out,SS x.y,decide_eq_true_eq,r.out]
 have S:Hid ((if GN k then A else (x.D == 0))=true↔DZ x.d x.D):=by
  show(if GN k then A else (x.D == 0))=true↔DZ x.d x.D
  rw[← F.out,ip x.D,decide_eq_true_eq,r.out]
 by_cases p0:AH x.d x.j1
 case neg =>
  have B:Hid ((if Ap k then f else x.j1.toList.isEmpty)=false):=Bool.eq_false_iff.2 (λh=>p0 (N.1 h))
  have m:Hid (V=false):=Bool.eq_false_iff.2 (λh=>p0 (C.1 h).2.1)
  clear p0;refine ze kR kR ?_;simp only[List.append_eq,List.cons_append,List.nil_append]
  repeat(go_big_quiet_step (first|(go_at_call 239;with_reducible refine gE (v:=.bool f) (Zk x.j1 _ J) (by rw[i.out]))|(go_at_call 241;with_reducible refine gE (v:=.bool false) (zR (Ap k) f x.j1.toList.isEmpty _) (by rw[B.out]))))
  refine Jl ?_;rintro _ ⟨g,rfl⟩;go_wp2;go_ret;exact⟨by rw[m.out];rfl,zb j g.o⟩
 have B:Hid ((if Ap k then f else x.j1.toList.isEmpty)=true):=N.2 p0;have a1:Hid (AH x.d x.j1):=p0;clear p0
 by_cases p1:Bv x.d x.k
 case neg =>
  have D:Hid ((if Q8 k then l else (x.k == 0))=false):=Bool.eq_false_iff.2 (λh=>p1 (O.1 h))
  have m:Hid (V=false):=Bool.eq_false_iff.2 (λh=>p1 (C.1 h).2.2.1)
  clear p1;refine ze kR kR ?_;simp only[List.append_eq,List.cons_append,List.nil_append]
  repeat(go_big_quiet_step (first|(go_at_call 239;with_reducible refine gE (v:=.bool f) (Zk x.j1 _ J) (by rw[i.out]))|(go_at_call 191;with_reducible refine gE (v:=.bool l) (zx x.k 1 30 _) (by rw[n.out]))|(go_at_call 241;with_reducible refine gE (v:=.bool true) (zR (Ap k) f x.j1.toList.isEmpty _) (by rw[B.out]))|(go_at_call 241;with_reducible refine gE (v:=.bool false) (zR (Q8 k) l (x.k == 0) _) (by rw[D.out]))))
  refine Jl ?_;rintro _ ⟨g,rfl⟩;go_wp2;go_ret;exact⟨by rw[m.out];rfl,zb j g.o⟩
 have D:Hid ((if Q8 k then l else (x.k == 0))=true):=O.2 p1;have a2:Hid (Bv x.d x.k):=p1;clear p1
 by_cases p2:Zj x.d x.c
 case neg =>
  have L:Hid ((if decide (0<ZL k) then o else ((x.c:Int) == 0))=false):=Bool.eq_false_iff.2 (λh=>p2 (P.1 h))
  have m:Hid (V=false):=Bool.eq_false_iff.2 (λh=>p2 (C.1 h).2.2.2.1)
  clear p2;refine ze kR kR ?_;simp only[List.append_eq,List.cons_append,List.nil_append]
  repeat(go_big_quiet_step (first|(go_at_call 239;with_reducible refine gE (v:=.bool f) (Zk x.j1 _ J) (by rw[i.out]))|(go_at_call 191;with_reducible refine gE (v:=.bool l) (zx x.k 1 30 _) (by rw[n.out]))|(go_at_call 191;with_reducible refine gE (v:=.bool o) (zx (x.c:Int) 1 (ZL k) _) (by rw[s.out]))|(go_at_call 241;with_reducible refine gE (v:=.bool true) (zR (Ap k) f x.j1.toList.isEmpty _) (by rw[B.out]))|(go_at_call 241;with_reducible refine gE (v:=.bool true) (zR (Q8 k) l (x.k == 0) _) (by rw[D.out]))|(go_at_call 241;with_reducible refine gE (v:=.bool false) (zR (decide (0<ZL k)) o ((x.c:Int) == 0) _) (by rw[L.out]))))
  refine Jl ?_;rintro _ ⟨g,rfl⟩;go_wp2;go_ret;exact⟨by rw[m.out];rfl,zb j g.o⟩
 have L:Hid ((if decide (0<ZL k) then o else ((x.c:Int) == 0))=true):=P.2 p2;have a3:Hid (Zj x.d x.c):=p2;clear p2
 by_cases p3:Zr x.d x.p
 case neg =>
  have M:Hid ((if QI k then q else (PZ x.v x.f x.j x.w x.h x.x))=false):=Bool.eq_false_iff.2 (λh=>p3 (Q.1 h))
  have m:Hid (V=false):=Bool.eq_false_iff.2 (λh=>p3 (C.1 h).2.2.2.2.1)
  clear p3;refine ze kR kR ?_;simp only[List.append_eq,List.cons_append,List.nil_append]
  repeat(go_big_quiet_step (first|(go_at_call 239;with_reducible refine gE (v:=.bool f) (Zk x.j1 _ J) (by rw[i.out]))|(go_at_call 191;with_reducible refine gE (v:=.bool l) (zx x.k 1 30 _) (by rw[n.out]))|(go_at_call 191;with_reducible refine gE (v:=.bool o) (zx (x.c:Int) 1 (ZL k) _) (by rw[s.out]))|(go_at_call 240;with_reducible refine gF (v:=.bool q) (CJ x.v x.f x.j x.w x.h x.x _) (by rw[u.out]))|(go_at_call 241;with_reducible refine gE (v:=.bool true) (zR (Ap k) f x.j1.toList.isEmpty _) (by rw[B.out]))|(go_at_call 241;with_reducible refine gE (v:=.bool true) (zR (Q8 k) l (x.k == 0) _) (by rw[D.out]))|(go_at_call 241;with_reducible refine gE (v:=.bool true) (zR (decide (0<ZL k)) o ((x.c:Int) == 0) _) (by rw[L.out]))|(go_at_call 241;with_reducible refine gE (v:=.bool false) (zR (QI k) q (PZ x.v x.f x.j x.w x.h x.x) _) (by rw[M.out]))))
  refine Jl ?_;rintro _ ⟨g,rfl⟩;go_wp2;go_ret;exact⟨by rw[m.out];rfl,zb j g.o⟩
 have M:Hid ((if QI k then q else (PZ x.v x.f x.j x.w x.h x.x))=true):=Q.2 p3;have a4:Hid (Zr x.d x.p):=p3;clear p3
 by_cases p4:AT x.d x.y
 case neg =>
  have D4:Hid ((if Bi k then y else (x.y == 0))=false):=Bool.eq_false_iff.2 (λh=>p4 (R.1 h))
  have m:Hid (V=false):=Bool.eq_false_iff.2 (λh=>p4 (C.1 h).2.2.2.2.2.1)
  clear p4;refine ze kR kR ?_;simp only[List.append_eq,List.cons_append,List.nil_append]
  repeat(go_big_quiet_step (first|(go_at_call 239;with_reducible refine gE (v:=.bool f) (Zk x.j1 _ J) (by rw[i.out]))|(go_at_call 191;with_reducible refine gE (v:=.bool l) (zx x.k 1 30 _) (by rw[n.out]))|(go_at_call 191;with_reducible refine gE (v:=.bool o) (zx (x.c:Int) 1 (ZL k) _) (by rw[s.out]))|(go_at_call 240;with_reducible refine gF (v:=.bool q) (CJ x.v x.f x.j x.w x.h x.x _) (by rw[u.out]))|(go_at_call 242;with_reducible refine gE (v:=.bool y) (Qw x.y _) (by rw[z.out]))|(go_at_call 241;with_reducible refine gE (v:=.bool true) (zR (Ap k) f x.j1.toList.isEmpty _) (by rw[B.out]))|(go_at_call 241;with_reducible refine gE (v:=.bool true) (zR (Q8 k) l (x.k == 0) _) (by rw[D.out]))|(go_at_call 241;with_reducible refine gE (v:=.bool true) (zR (decide (0<ZL k)) o ((x.c:Int) == 0) _) (by rw[L.out]))|(go_at_call 241;with_reducible refine gE (v:=.bool true) (zR (QI k) q (PZ x.v x.f x.j x.w x.h x.x) _) (by rw[M.out]))|(go_at_call 241;with_reducible refine gE (v:=.bool false) (zR (Bi k) y (x.y == 0) _) (by rw[D4.out]))))
  refine Jl ?_;rintro _ ⟨g,rfl⟩;go_wp2;go_ret;exact⟨by rw[m.out];rfl,zb j g.o⟩
 have D4:Hid ((if Bi k then y else (x.y == 0))=true):=R.2 p4;have a5:Hid (AT x.d x.y):=p4;clear p4
 by_cases p5:DZ x.d x.D
 case neg =>
  have D5:Hid ((if GN k then A else (x.D == 0))=false):=Bool.eq_false_iff.2 (λh=>p5 (S.1 h))
  have m:Hid (V=false):=Bool.eq_false_iff.2 (λh=>p5 (C.1 h).2.2.2.2.2.2)
  clear p5;refine ze kR kR ?_;simp only[List.append_eq,List.cons_append,List.nil_append]
  repeat(go_big_quiet_step (first|(go_at_call 239;with_reducible refine gE (v:=.bool f) (Zk x.j1 _ J) (by rw[i.out]))|(go_at_call 191;with_reducible refine gE (v:=.bool l) (zx x.k 1 30 _) (by rw[n.out]))|(go_at_call 191;with_reducible refine gE (v:=.bool o) (zx (x.c:Int) 1 (ZL k) _) (by rw[s.out]))|(go_at_call 240;with_reducible refine gF (v:=.bool q) (CJ x.v x.f x.j x.w x.h x.x _) (by rw[u.out]))|(go_at_call 242;with_reducible refine gE (v:=.bool y) (Qw x.y _) (by rw[z.out]))|(go_at_call 242;with_reducible refine gE (v:=.bool A) (Qw x.D _) (by rw[F.out]))|(go_at_call 241;with_reducible refine gE (v:=.bool true) (zR (Ap k) f x.j1.toList.isEmpty _) (by rw[B.out]))|(go_at_call 241;with_reducible refine gE (v:=.bool true) (zR (Q8 k) l (x.k == 0) _) (by rw[D.out]))|(go_at_call 241;with_reducible refine gE (v:=.bool true) (zR (decide (0<ZL k)) o ((x.c:Int) == 0) _) (by rw[L.out]))|(go_at_call 241;with_reducible refine gE (v:=.bool true) (zR (QI k) q (PZ x.v x.f x.j x.w x.h x.x) _) (by rw[M.out]))|(go_at_call 241;with_reducible refine gE (v:=.bool true) (zR (Bi k) y (x.y == 0) _) (by rw[D4.out]))|(go_at_call 241;with_reducible refine gE (v:=.bool false) (zR (GN k) A (x.D == 0) _) (by rw[D5.out]))))
  refine Jl ?_;rintro _ ⟨g,rfl⟩;go_wp2;go_ret;exact⟨by rw[m.out];rfl,zb j g.o⟩
 have D5:Hid ((if GN k then A else (x.D == 0))=true):=S.2 p5;have a6:Hid (DZ x.d x.D):=p5;clear p5;have m:Hid (V=true):=C.2 ⟨E,a1,a2,a3,a4,a5,a6⟩;refine ze kR kR ?_;simp only[List.append_eq,List.cons_append,List.nil_append]
 repeat(go_big_quiet_step (first|(go_at_call 239;with_reducible refine gE (v:=.bool f) (Zk x.j1 _ J) (by rw[i.out]))|(go_at_call 191;with_reducible refine gE (v:=.bool l) (zx x.k 1 30 _) (by rw[n.out]))|(go_at_call 191;with_reducible refine gE (v:=.bool o) (zx (x.c:Int) 1 (ZL k) _) (by rw[s.out]))|(go_at_call 240;with_reducible refine gF (v:=.bool q) (CJ x.v x.f x.j x.w x.h x.x _) (by rw[u.out]))|(go_at_call 242;with_reducible refine gE (v:=.bool y) (Qw x.y _) (by rw[z.out]))|(go_at_call 242;with_reducible refine gE (v:=.bool A) (Qw x.D _) (by rw[F.out]))|(go_at_call 241;with_reducible refine gE (v:=.bool true) (zR (Ap k) f x.j1.toList.isEmpty _) (by rw[B.out]))|(go_at_call 241;with_reducible refine gE (v:=.bool true) (zR (Q8 k) l (x.k == 0) _) (by rw[D.out]))|(go_at_call 241;with_reducible refine gE (v:=.bool true) (zR (decide (0<ZL k)) o ((x.c:Int) == 0) _) (by rw[L.out]))|(go_at_call 241;with_reducible refine gE (v:=.bool true) (zR (QI k) q (PZ x.v x.f x.j x.w x.h x.x) _) (by rw[M.out]))|(go_at_call 241;with_reducible refine gE (v:=.bool true) (zR (Bi k) y (x.y == 0) _) (by rw[D4.out]))|(go_at_call 241;with_reducible refine gE (v:=.bool true) (zR (GN k) A (x.D == 0) _) (by rw[D5.out]))))
 refine Jl ?_;rintro _ ⟨g,rfl⟩;go_wp2;go_ret;exact⟨by rw[m.out];rfl,zb j g.o⟩
end Go.Proofs.YtmdnjgihooflfaaGreatDoor
