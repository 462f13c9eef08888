import Derived.Test.YtmdnjgihooflfaaGreatDoorB20
namespace Go.Proofs.YtmdnjgihooflfaaGreatDoor
open Go.RowKit
open Go.Value (int)
open Go.IntKind (i64)
open _root_.Go.Proofs.Tryz
set_option maxHeartbeats 64000000
set_option maxRecDepth 1000000
variable{x:zY}{y:qD}{m base B:Nat}{a name price b:Int}{c d:List Value}{u:World}{ok:Bool}
section
theorem QC {u:World}{e a t v:Nat}{g h i j k l m n o p q r s c d:Value}(f:u.heap[e]?=some (.cells #[g,h,i] t (0,0)))(b:u.heap[a]?=some (.cells #[j,k,l,m,n,o,p,q,r,s,c,d] v (0,0))) :
  u.cell? (e,0)=some g/\u.cell? (e,1)=some h/\u.cell? (e,2)=some i/\u.cell? (a,0)=some j/\u.cell? (a,1)=some k/\u.cell? (a,2)=some l/\u.cell? (a,3)=some m/\u.cell? (a,4)=some n/\u.cell? (a,5)=some o/\u.cell? (a,6)=some p/\u.cell? (a,7)=some q/\u.cell? (a,8)=some r/\u.cell? (a,9)=some s/\u.cell? (a,10)=some c/\u.cell? (a,11)=some d :=
 ⟨zf f 0 g rfl,zf f 1 h rfl,zf f 2 i rfl,zf b 0 j rfl,zf b 1 k rfl,zf b 2 l rfl,zf b 3 m rfl,zf b 4 n rfl,zf b 5 o rfl,zf b 6 p rfl,zf b 7 q rfl,zf b 8 r rfl,zf b 9 s rfl,zf b 10 c rfl,zf b 11 d rfl⟩
abbrev DP:=Nat->zY->Int->Int->Int->Nat->(Nat->Ao)->Bool->Prop
def IT (P:DP)(base:Nat)(e:Ending)(u:World):Prop:=∃ rb x2 code name price N T ok,P rb x2 code name price N T ok/\GQ base rb x2 code name price N T ok e u
def nf (P:DP)(base a b:Nat)(ok:Bool)(z:World):Prop :=
 ∃ rb x2 code name price N T,P rb x2 code name price N T ok/\∃ a1 c1 a2 c2 a3 c3 ar cr L C A B D E,z.heap[a]?=some (.cells #[.slice a1 x2.i c1,.slice a2 x2.l c2,.slice a3 x2.g c3] 38 (0,0))/\z.heap[b]?=some (.cells #[int i64 code,int i64 name,int i64 price,.slice ar N cr] 41 (0,0))/\zz z base (.slice a1 x2.i c1) (.slice a2 x2.l c2) (.slice a3 x2.g c3) x2.i x2.l x2.g x2 L C A B D E/\z.ownsRow rb 203 5 (.slice ar N cr) N (Zh T N)
theorem IT.j0 {P:DP}{base:Nat}{e:Ending}{u c:World}(h:IT P base e u)(b:Below u u c):IT P base e c:=by
 obtain⟨m,n,a,name,price,N,T,ok,l,d,c1,f,c2,g,c3,i,j,L,C,A,B,D,E,rfl,k,hr⟩:=h;exact⟨m,n,_,_,_,N,T,ok,l,d,c1,f,c2,g,c3,i,j,L,C,A,B,D,E,rfl,k.j0 b,zm b hr⟩
structure RG (w u:World)(j k:Nat)(ca d:Array Value)(x:zY)(y:qD)(P:DP)(h i:Option Nat)(f g:Option (List Value))(r:Option Ending):Prop where
 o:Below w w u
 a:u.heap[j]?=some (.cells ca 26 (0,0))
 b:u.heap[k]?=some (.cells d 31 (0,0))
 h8:∀ q,h=some q->w.heap.size<=q/\u.heap[q]?=some (.cells #[True,True,True] 38 (0,0))
 h9:∀ q,i=some q->w.heap.size<=q/\u.heap[q]?=some (.cells #[(),(),(),True] 41 (0,0))
 i1:∀ c,f=some c->zY.Is u c x
 i2:∀ c,g=some c->qD.Is u c y
 hr:∀ e,r=some e->IT P w.heap.size e u
section
variable {w u u' : World} {pA pB : Nat} {ca cb : Array Value} {x : zY} {y : qD} {P : DP} {p8 p9 : Option Nat} {k1 k2 : Option (List Value)} {r : Option Ending}
theorem RG.j0 (h:RG w u pA pB ca cb x y P p8 p9 k1 k2 r)(a:Below u u u'):RG w u' pA pB ca cb x y P p8 p9 k1 k2 r :=
 ⟨zb h.o a,za h.a a,za h.b a,λq e=>⟨(h.h8 q e).1,za (h.h8 q e).2 a⟩,λq e=>⟨(h.h9 q e).1,za (h.h9 q e).2 a⟩,λc e=>(h.i1 c e).j0 a,λc e=>(h.i2 c e).j0 a,λe q=>(h.hr e q).j0 a⟩
theorem RG.al8 (h:RG w u pA pB ca cb x y P none p9 k1 k2 r):RG w (u.alloc (.cells #[True,True,True] 38)) pA pB ca cb x y P (some u.heap.size) p9 k1 k2 r:=by
 have k:=h.j0 (zd (Ji _ u) (.cells #[True,True,True] 38));exact⟨k.o,k.a,k.b,λq e=>by cases e;exact⟨h.o.size,Jb u _⟩,k.h9,k.i1,k.i2,k.hr⟩
theorem RG.al9 (h:RG w u pA pB ca cb x y P p8 none k1 k2 r):RG w (u.alloc (.cells #[(),(),(),True] 41)) pA pB ca cb x y P p8 (some u.heap.size) k1 k2 r:=by
 have k:=h.j0 (zd (Ji _ u) (.cells #[(),(),(),True] 41));exact⟨k.o,k.a,k.b,k.h8,λq e=>by cases e;exact⟨h.o.size,Jb u _⟩,k.i1,k.i2,k.hr⟩
theorem RG.off (h:RG w u pA pB ca cb x y P p8 p9 none k2 r)(cs:List Value)(b:zY.Short x 1048576)(g:zY.Is w cs x) :
  Calls prog 9 #[.agg cs.toArray] u λe d=>∃ c,e=.returned (.agg c.toArray)/\Hid (RG w d pA pB ca cb x y P p8 p9 (some c) k2 r):=by
 refine(El cs x u b (g.j0 h.o)).mono ?_;rintro e d ⟨c,rfl,a,f⟩;have k:=h.j0 f;exact⟨c,rfl,k.o,k.a,k.b,k.h8,k.h9,λq e=>by cases e;exact a.is b,k.i2,k.hr⟩
theorem RG.op (h:RG w u pA pB ca cb x y P p8 p9 k1 none r)(cs:List Value)(b:qD.Short y 1048576)(g:qD.Is w cs y) :
  Calls prog 10 #[.agg cs.toArray] u λe d=>∃ c,e=.returned (.agg c.toArray)/\Hid (RG w d pA pB ca cb x y P p8 p9 k1 (some c) r):=by
 refine(KG cs y u b (g.j0 h.o)).mono ?_;rintro e d ⟨c,rfl,a,f⟩;have k:=h.j0 f;exact⟨c,rfl,k.o,k.a,k.b,k.h8,k.h9,k.i1,λq e=>by cases e;exact a.is b,k.hr⟩
theorem RG.dop {c d:List Value}(h:RG w u pA pB ca cb x y P p8 p9 (some c) (some d) none)(F:FuncId)(j:Int)(o:∀ c d u,Below w w u->zY.Is u c x->qD.Is u d y->Calls prog F #[.agg c.toArray,j,.agg d.toArray] u λe m=>IT P u.heap.size e m/\Below u u m) :
  Calls prog F #[.agg c.toArray,int i64 j,.agg d.toArray] u λe m=>∃ b n1 c1 f n2 c2 g n3 c3 a name price i n l ok,e=.returned (.tuple #[.agg #[.slice b n1 c1,.slice f n2 c2,.slice g n3 c3],.agg #[int i64 a,int i64 name,int i64 price,.slice i n l],.bool ok]) /\
   Hid (RG w m pA pB ca cb x y P p8 p9 (some c) (some d) (some (.returned (.tuple #[.agg #[.slice b n1 c1,.slice f n2 c2,.slice g n3 c3],.agg #[int i64 a,int i64 name,int i64 price,.slice i n l],.bool ok])))):=by
 refine(o c d u h.o (h.i1 c rfl) (h.i2 d rfl)).mono ?_;rintro e m ⟨⟨t,v,a,name,price,N,T,ok,s,b,c1,f,c2,g,c3,i,l,L,C,A,B,D,E,rfl,r,hr⟩,p⟩;have k:=h.j0 p;exact⟨b,_,c1,f,_,c2,g,_,c3,_,_,_,i,N,l,ok,rfl,k.o,k.a,k.b,k.h8,k.h9,k.i1,k.i2,λq e=>by cases e;exact⟨t,v,_,_,_,N,T,ok,s,b,c1,f,c2,g,c3,i,l,L,C,A,B,D,E,rfl,r.lower h.o.size,hr⟩⟩
theorem RG.fin {d j k l m n c1 c2 c3 r:Nat}{f g i o:Option Addr}{a name price:Int}{ok:Bool}(h:RG w u pA pB ca cb x y P (some d) (some j) k1 k2 (some (.returned (.tuple #[.agg #[.slice f k c1,.slice g l c2,.slice i m c3],.agg #[int i64 a,int i64 name,int i64 price,.slice o n r],.bool ok])))) :
  (u.heap[d]?=some (.cells #[True,True,True] 38 (0,0))/\(zW u d (f,k,c1) (g,l,c2) (i,m,c3)).heap[j]?=some (.cells #[(),(),(),True] 41 (0,0))) /\
  ((zW u d (f,k,c1) (g,l,c2) (i,m,c3)).heap[pA]?=some (.cells ca 26 (0,0))/\(zW u d (f,k,c1) (g,l,c2) (i,m,c3)).heap[pB]?=some (.cells cb 31 (0,0))) /\
  ((Zg (zW u d (f,k,c1) (g,l,c2) (i,m,c3)) j a name price (o,n,r)).heap[pA]?=some (.cells ca 26 (0,0))/\(Zg (zW u d (f,k,c1) (g,l,c2) (i,m,c3)) j a name price (o,n,r)).heap[pB]?=some (.cells cb 31 (0,0))) /\
  nf P w.heap.size d j ok (Zg (zW u d (f,k,c1) (g,l,c2) (i,m,c3)) j a name price (o,n,r))/\Below w w (Zg (zW u d (f,k,c1) (g,l,c2) (i,m,c3)) j a name price (o,n,r))/\w.heap.size<=d/\w.heap.size<=j:=by
 obtain⟨Q,h8⟩:=h.h8 d rfl;obtain⟨R,h9⟩:=h.h9 j rfl;have c:=Eh h8 h9 (f,k,c1) (g,l,c2) (i,m,c3) a name price (o,n,r);have G:∀ {p q:Nat} {A B} {s t},u.heap[p]?=some (.cells A s _)->u.heap[q]?=some (.cells B t (0,0))->s≠t->p≠q:=λI O J e=>by
  subst e;rw[I] at O
  cases O
  exact J rfl
 have v:=c.2.2.2.1.blk h.a (G h.a h8 dC);have z:=c.2.2.2.1.blk h.b (G h.b h8 dC);obtain⟨rb,x2,H,K,F,N,T,a4,I,U,X,V,Y,M,Z,W,a0,L,C,A,B,D,E,he,ho,hr⟩:=h.hr _ rfl
 cases he
 have S:=c.2.2.2.1.j1 hr (λb e=>zQ hr h8 dC b e)
 exact⟨⟨h8,c.1⟩,⟨v,z⟩,⟨c.2.2.2.2.blk v (G h.a h9 dC),c.2.2.2.2.blk z (G h.b h9 dC)⟩,
  ⟨rb,x2,_,_,_,_,T,I,f,c1,g,c2,i,c3,o,r,L,C,A,B,D,E,c.2.1,c.2.2.1,(ho.box c.2.2.2.1 h8 dC).box c.2.2.2.2 c.1 dC,c.2.2.2.2.j1 S (λb e=>zQ S c.1 dC b e)⟩,GU h.o Q R c.2.2.2.1 c.2.2.2.2,Q,R⟩
end
end
theorem jc (x:zY)(F t s a4:Option Addr)(K J I a6 m:Nat)(a9:Int)(y:qD)(w:World)(hs:zY.Short x 1048576)(m0:qy w F x.i x.G)(l4:ZA w t x.l x.F)(l1:qL w s x.g x.u)(l5:zS w a4 y.c y.J)(m1:qm a4 y.c a6)(hl:y.c<=1048576)(ho:y.j1.size<=1048576)(hO:qS x)(hb:In a9 1 9999)(hx:∀ i,i<x.g->(x.u i).e≠a9)(hm:QE y->In y.d 4 8->y.k=(m:Int)+1/\m<=1048576) :
  Calls prog 44 #[.agg #[(F,x.i,K),(t,x.l,J),(s,x.g,I)],a9,.agg (y,a4,a6)] w λe w'=>pj x a9 y m w.heap.size e w'/\Below w w w':=by
 have HS:=hI hs;have T:Hid (_/\_/\_/\_/\_):=⟨m0,l4,l1,l5,m1⟩;have HG:Hid (_/\_/\_):=⟨hO,hb,hx⟩;have HN:=hI hm;have o9:=hO.1.1;have l0:=hO.2.2.1;have e8:=hI hO.2.1;clear hs m0 l4 l1 l5 m1 hO hb hx hm;have n:Below w w ((((w.alloc (.cells #[(F,x.i,K),(t,x.l,J),(s,x.g,I)] 38)).alloc (.cells (y,a4,a6) 47)).alloc (.cells #[True,True,True] 38)).alloc (.cells #[(),(),(),True] 41)):=zd (zd (zd (zd bZ _) _) _) _;have H:=zg (zg (zg (Jb w (.cells #[(F,x.i,K),(t,x.l,J),(s,x.g,I)] 38)) (.cells (y,a4,a6) 47)) (.cells #[True,True,True] 38)) (.cells #[(),(),(),True] 41);have N:=zg (zg (EB w (.cells #[(F,x.i,K),(t,x.l,J),(s,x.g,I)] 38) (.cells (y,a4,a6) 47)) (.cells #[True,True,True] 38)) (.cells #[(),(),(),True] 41);have G:=zg (show(((w.alloc (.cells #[(F,x.i,K),(t,x.l,J),(s,x.g,I)] 38)).alloc (.cells (y,a4,a6) 47)).alloc _).heap[w.heap.size+1+1]?=some (.cells #[True,True,True] 38 (0,0)) from by simpa using Jb ((w.alloc _).alloc _) _) (.cells #[(),(),(),True] 41)
 have o:=lw n;go_enter func44,ntmps44;go_wp2_with fail;generalize ((((w.alloc _).alloc _).alloc _).alloc _)=W at n H N G o ⊢;refine(PQ F t s a4 _ _ _ K J I a6 m x y _ oM oM hl oM (T.1.j0 n) (T.2.2.1.j0 n) ⟨a4,a6,rfl,T.2.2.2.1.j0 n,T.2.2.2.2⟩ HN.out).mono ?_;rintro e V ⟨⟨d,rfl,e7⟩,d5⟩;have k2:=hI e7;clear e7;replace n:=zb n d5;replace H:=za H d5;replace N:=za N d5;replace G:=za G d5;replace o:=za o d5;clear d5 W;obtain⟨f0,f1,f2⟩:=ZE H
 by_cases hc:d=0
 case neg =>
  have d1:(d != 0)=true:=by simpa using hc
  have d2:(d == 0)=false:=by simpa using hc
  have HC:Hid (d≠0):=hc;clear hc;go_wp2_with fail;refine(Ee F t s _ _ _ K J I x _ rfl rfl rfl HS.out (T.1.j0 n) (T.2.1.j0 n) (T.2.2.1.j0 n)).mono ?_;rintro e V9 ⟨⟨a1,c1,a2,c2,a3,c3,L9,C9,A9,B9,D9,E9,rfl,S⟩,c0⟩;have e6:=zb n c0;have R:=za G c0;have O:=za o c0;obtain⟨P,b5,b6,Q,_⟩:=Hw e6 (S.lower n.size) R O oM oM d () () True rfl;have a8:=hI P;have a7:=hI Q;clear P Q S;obtain⟨s0,s1,s2⟩:=ZE R;obtain⟨g5,g6,g7⟩:=FM R;obtain⟨t0,t1,t2,t3⟩:=Qk O;obtain⟨g8,g9,i0,i3⟩:=EV O;go_wp2;obtain⟨x0,x1,x2⟩:=ZE b5;obtain⟨z0,z1,z2,z3⟩:=Qk b6;exact Jj (by simp[results,results44,go_sem,x0,x1,x2,z0,z1,z2,z3]) rfl ⟨⟨x,_,_,_,_,_,_,_,_,_,_,_,_,_,_,_,_,rfl,a8.out,.inl ⟨HC.out,rfl,rfl,rfl,k2.out⟩,.inl ⟨rfl,λ_=>HC.out⟩⟩,a7.out⟩
 subst hc;have p3:=zD o;have U:=hI (SY k2.out (λh1 h2=>(HN.out h1 h2).1))
 go_wp2_with fail;refine(Ee F t s _ _ _ K J I x _ rfl rfl rfl HS.out (T.1.j0 n) (T.2.1.j0 n) (T.2.2.1.j0 n)).mono ?_;rintro e V2 ⟨⟨a1,c1,a2,c2,a3,c3,L,C,A,B,D,E,rfl,S⟩,p⟩;have k7:=hI S;have i5:=n.size;replace n:=zb n p;replace H:=za H p;replace N:=za N p;replace G:=za G p;replace o:=za o p;have e4:=hI (zD o);clear f0 f1 f2 S;have g0:=aC H 0;have g1:=aC H 1;have g2:=aC H 2;have h0:=aC N 0;have h1:=aC N 1;have h2:=aC N 2;have h3:=aC N 3;have h4:=aC N 4;have h5:=aC N 5;have h6:=aC N 6;have h7:=aC N 7;have h8:=aC N 8;have h9:=aC N 9;have j7:=aC N 10;have j8:=aC N 11;go_wp2_with fail;have bQ:=Jb V2 (.cells #[(a1,x.i,c1),(a2,x.l,c2),(a3,x.g,c3)] 38);have i6:=p.size;have j3:Hid (zz (V2.alloc (.cells #[(a1,x.i,c1),(a2,x.l,c2),(a3,x.g,c3)] 38)) _ _ _ _ _ _ _ x L C A B D E):=k7.j0 (zd bZ _);replace n:=zd n (.cells #[(a1,x.i,c1),(a2,x.l,c2),(a3,x.g,c3)] 38);replace H:=zg H (.cells #[(a1,x.i,c1),(a2,x.l,c2),(a3,x.g,c3)] 38);replace N:=zg N (.cells #[(a1,x.i,c1),(a2,x.l,c2),(a3,x.g,c3)] 38);replace G:=zg G (.cells #[(a1,x.i,c1),(a2,x.l,c2),(a3,x.g,c3)] 38);replace o:=zg o (.cells #[(a1,x.i,c1),(a2,x.l,c2),(a3,x.g,c3)] 38);have o2:=e4.out;generalize V2.alloc _=X at bQ j3 n H N G o ⊢;have c9:=zD bQ;generalize V2.heap.size=qb at bQ i6 o2 c9 ⊢;have l9:=hI c9;clear c9;clear e4 g0 g1 g2 h0 h1 h2 h3 h4 h5 h6 h7 h8 h9 j7 j8 k7 p V2;refine(PE F t s a4 _ _ _ K J I a6 m x y a9 _ oM HS.2.2.2 hl (T.2.2.1.j0 n) (T.2.2.2.1.j0 n) (λhk=>⟨(U.2.2 (Bn hk)).1,(U.2.2 (Bn hk)).2.1⟩)).mono ?_
 rintro e Y ⟨v,rfl,g4,b4⟩;have f4:=hI (FE HG.1 U.out HG.2.1 HG.2.2);obtain⟨l,f7⟩:=nM (qB x a9 y m);rw[← f7] at g4 f4;have HL:=hI f7;have p7:l.length<=1000:=by
  rw[f7];unfold qB;have q1:=Kn U.1;have q2:=QL true (x.u m).e ⟨(x.u m).v,(x.u m).f,(x.u m).j,(x.u m).w,(x.u m).h,(x.u m).x⟩ (x.u m).J (x.u m).c;have q3:=QL false a9 ⟨y.v,y.f,y.j,y.w,y.h,y.x⟩ y.J y.c;have q4:=λhk=>(HG.1.2.2.2.2.1 m (U.2.2 (Bn hk)).2.1).2.2.2.1.2.1
  rw[List.length_append];have p1:(if QH y.d then Za true (x.u m).e ⟨(x.u m).v,(x.u m).f,(x.u m).j,(x.u m).w,(x.u m).h,(x.u m).x⟩ (x.u m).J (x.u m).c else []).length<=9:=by
   by_cases c:QH y.d
   ·rw[Jf c];have:=q4 c;omega
   ·rw[Je c];decide
  have p2:(if zM y.d then Za false a9 ⟨y.v,y.f,y.j,y.w,y.h,y.x⟩ y.J y.c else []).length<=9:=by
   by_cases c:zM y.d
   ·rw[Jf c];omega
   ·rw[Je c];decide
  omega
 clear f7;obtain⟨aw,cw,rfl,w1,w2,w3⟩:=zn g4;have k9:Hid _:=g4;have e9:=hI (j3.j0 b4);have m3:=b4.size;replace n:=zb n b4;replace H:=za H b4;replace N:=za N b4;replace G:=za G b4;replace o:=za o b4;replace bQ:=za bQ b4;have o4:=l9.out;clear g4 b4 w1 w2 w3 j3;rw[e8.out] at e9 bQ ⊢;have i4:Hid (∀ wr,_->Below w w wr/\_/\_/\_/\_/\_):=λwr hk=>by
  have q:=λb e=>(e9.F.row.lt b e).1
  exact⟨zl.j0 n n.size hk (λb e=>Jp i5 (q b e)),hk.blk H (λe=>by have:=q _ e;omega),hk.blk N (λe=>by have:=q _ e;omega),hk.blk G (λe=>by have:=q _ e;omega),hk.blk o (λe=>by have:=q _ e;omega),hk.j1 k9.out (λg h1 h2=>zE e9.F.row k9.out dC g h2 h1)⟩
 go_wp2;go_loopw [11,12,30] (λ_ _ i wr=>∃ (j:Nat) (M:_) (A B D:_),j<=l.length/\i=int i64 j/\Hid (Q2 x l j M)/\Hid (zz wr V.heap.size (a1,x.i,c1) (a2,x.i,c2) (a3,x.g,c3) x.i x.i x.g { x with F:=M } L C A B D E)/\Hid (wr.heap[qb]?=some (.cells #[(a1,x.i,c1),(a2,x.i,c2),(a3,x.g,c3)] 38 (0,0)))/\Hid (zl Y wr (λb=>(Value.slice a2 x.i c2).ownBlock=some b))) (λ_ _ i _=>l.length - (intOf i).toNat)
 case atStart=>exact⟨0,_,_,_,_,Jq _,rfl,Q2.start HG.1 (λv hv=>(f4.2 v hv).1),e9.out,bQ,zl.refl _ _⟩
 case round =>
  clear H N G o bQ n;obtain⟨j,M,A,B,D,hj,rfl,a0,j2,k1,j0⟩:=hrel;obtain⟨f,H,N,G,o,j9⟩:=i4.out wr j0.out
  by_cases hlt:j<l.length
  ·obtain⟨v,hv⟩:∃ v,_=_:=⟨l[j],List.getElem?_eq_getElem hlt⟩
   have HV:=hI hv;have d8:=hI (f4.2 v (List.mem_of_getElem? hv)).2;obtain⟨gw,rfl,_,p4⟩:=qr j9 oM;have a5:Hid (∀ r u,r<10->_=_->wr.cell? (gw,j*10+r)=some u):=λr u hr hu=>by
    rw[j9.cellAt _ oM,Nr l j v HV.out r hr];exact hu
   have n2:wr.cell? (gw,j*10)=_:=a5.out 0 _ dC rfl;have n3:=a5.out 1 _ dC rfl;have n4:=a5.out 2 _ dC rfl;have n5:=a5.out 3 _ dC rfl;have n6:=a5.out 4 _ dC rfl;have n7:=a5.out 5 _ dC rfl;have n8:=a5.out 6 _ dC rfl;have n9:=a5.out 7 _ dC rfl;have o0:=a5.out 8 _ dC rfl;have o1:=a5.out 9 _ dC rfl;clear hv j9;obtain⟨k,hk⟩:∃ k,zX x.G v.j5 x.i=k:=⟨_,rfl⟩;have HK:=hI hk;have b9:Hid (k<x.i):=by have h:=d8.2.1;rw[hk] at h;exact h
   clear hk;have i1:=n0 j;have i2:(j:Int)<(l.length:Int):=oM;go_wp2_with fail;have f8:Below wr wr (wr.alloc (.cells #[v.j5,(v.j3:Int),v.E,v.e,v.p.v,v.p.f,v.p.j,v.p.w,v.p.h,v.p.x] 159)):=zd bZ _;have k5:=hI (j2.j0 f8);have k0:Hid ((wr.alloc (.cells #[v.j5,(v.j3:Int),v.E,v.e,v.p.v,v.p.f,v.p.j,v.p.w,v.p.h,v.p.x] 159)).heap[qb]?=_):=zg k1.out _;have k3:=hI (j0.trans (zl.of_below f8));generalize wr.alloc _=wa at f8 k5 k0 k3 ⊢;clear n2 n3 n4 n5 n6 n7 n8 n9 o0 o1 H N G o f f8;refine(iw qb _ _ _ k c1 c2 c3 a1 a2 a3 v _ L C A B D E wa k0.out k5.out oM HK.out b9.out (a0.good k b9.out) d8.1 (λhg=>a0.there HV.out HK.out b9.out hg) (λhg=>by have h:=(d8.2.2 hg).2.1.1;unfold In at h ⊢;omega)).mono ?_
   rintro e wd ⟨d,z,A',B',D',rfl,m4,l6,l8,l3⟩;have j4:Hid (qE (x.G k) v (M k) _ z):=m4;have m7:Hid (zz wd _ _ _ _ _ _ _ { x with F:=Ew M k z } L C A' B' D' E):=l6;have m8:=hI l8;have k4:=hI (k3.trans l3);clear m4 l6 l8 l3
   by_cases hc:d=0
   ·subst hc
    go_wp2;go_roundw
    case rel=>exact⟨_,_,A',B',D',by omega,by go_num,a0.next f4.1 HV.out HK.out b9.out d8.out j4.out,m7.out,m8.out,k4.out⟩
    case measure=>simp[intOf];omega
   ·have d1:(d != 0)=true:=by simpa using hc
    have d2:(d == 0)=false:=by simpa using hc
    have HC:Hid (d≠0):=hc;clear hc;obtain⟨f,H,N,G,o,_⟩:=i4.out wd k4.out;have m5:z=M k:=by
     rcases j4.on (a0.good k b9.out) (a0.comes HV.out HK.out b9.out d8.out) with⟨h,_⟩|⟨_,h⟩
     ·exact absurd h HC.out
     ·exact h
    have m9:Hid (qE (x.G k) v (M k) d (M k)):=by have h:=j4.out;rw[m5] at h;exact h
    clear m5;obtain⟨f0,f1,f2⟩:=ZE H;go_wp2_with fail;refine(Ee F t s _ _ _ K J I x _ rfl rfl rfl HS.out (T.1.j0 f) (T.2.1.j0 f) (T.2.2.1.j0 f)).mono ?_;rintro e V9 ⟨⟨a1,c1,a2,c2,a3,c3,L9,C9,A9,B9,D9,E9,rfl,S⟩,c0⟩;have e6:=zb f c0;have R:=za G c0;have O:=za o c0;obtain⟨P,b5,b6,Q,_⟩:=Hw e6 (S.lower f.size) R O oM oM d () () True rfl;have a8:=hI P;have a7:=hI Q;clear P Q S;obtain⟨s0,s1,s2⟩:=ZE R;obtain⟨g5,g6,g7⟩:=FM R;obtain⟨t0,t1,t2,t3⟩:=Qk O;obtain⟨g8,g9,i0,i3⟩:=EV O;go_wp2;obtain⟨x0,x1,x2⟩:=ZE b5;obtain⟨z0,z1,z2,z3⟩:=Qk b6;exact Jj (by simp[results,results44,go_sem,x0,x1,x2,z0,z1,z2,z3]) rfl ⟨⟨x,_,_,_,_,_,_,_,_,_,_,_,_,_,_,_,_,rfl,a8.out,.inr (.inl ⟨U.out,HC.out,rfl,rfl,rfl,j,M,v,k,by rw[← HL.out];exact a0.out,by rw[← HL.out];exact HV.out,HK.out,b9.out,m9.out⟩),.inl ⟨rfl,λ_=>HC.out⟩⟩,a7.out⟩
  ·obtain rfl:j=l.length:=by omega
   obtain⟨h0,h1,h2,h3,h4,h5,h6,h7,h8,h9,j7,j8⟩:=DQ N;go_wp2_with fail;refine(ch qb _ _ _ c1 c2 c3 a6 m a1 a2 a3 a4 a9 y _ L C A B D E wr k1.out j2.out rfl rfl e8.out (Jp (Jp i6 (Nat.le_of_lt (Nat.lt_of_lt_of_le o4 m3))) j0.size) (T.2.2.2.1.j0 f) T.2.2.2.2 (λh0 a ea=>by obtain⟨b',o8,e',o3⟩:=T.2.2.2.1 0 h0;rw[ea] at e';cases e';have h1:=Ja w _ o3;have h2:b'<w.heap.size:=h1;show b'<V.heap.size;omega) U.out HG.1.1 l0 ⟨HS.1,⟨HS.2.1.1,λi hi=>by have h:=a0.good i (by have:=e8.out;have h9:i<x.l:=hi;omega);exact⟨by have:=((QQ _ _ _).1 h.1).2.1;show(M i).r<=_;omega,by have:=h.2.1.2.1;show(M i).m<=_;omega,by have:=h.2.2.2.1;show(M i).t<=_;omega⟩⟩,HS.2.2⟩ (λi hi=>(HG.1.2.2.2.2.1 i hi).2.2.2.1)).mono ?_
   rintro e we ⟨x3,d,name,price,l2,f5,f6,rv,E',rfl,g3,l7,f9,d6⟩;obtain⟨ra,rn,rc,rfl⟩:∃ ra rn rc,rv=_:=by
    by_cases h9:y.d=9
    ·obtain⟨_,_,_,h3⟩:=g3.1 h9
     obtain⟨ao,c,e,_⟩:=zn h3;exact⟨ao,_,c,e⟩
    ·exact⟨_,0,0,g3.2 h9⟩
   have b7:=hI l2;have k8:=hI g3;have j1:=hI l7;have q:∀ b,b=qb∨_->V.heap.size<=b:=λb e=>by
    rcases e with e|e
    ·omega
    ·exact(j2.u.row.lt b e).1
   replace H:=d6.blk H (λe=>by have:=q _ e;omega)
   replace N:=d6.blk N (λe=>by have:=q _ e;omega)
   replace G:=d6.blk G (λe=>by have:=q _ e;omega)
   replace o:=d6.blk o (λe=>by have:=q _ e;omega)
   replace f:=zl.j0 f f.size d6 (λb e=>by have:=q _ e;omega)
   clear h0 h1 h2 h3 h4 h5 h6 h7 h8 h9 j7 j8 l2 g3 l7 d6 q;have p5:=aC N 0
   by_cases hc:d=0/\y.d≠1
   case neg =>
    have HC:Hid (d≠0∨y.d=1):=by
     by_cases h:d=0
     ·exact .inr (by by_cases h2:y.d=1;exact h2;exact absurd ⟨h,h2⟩ hc)
     ·exact .inl h
    have o5:=k8.2 (b7.nine HC.out)
    cases o5
    clear hc
    by_cases hc:d=0
    ·have hk:y.d=1:=by rcases HC.out with h|h;exact absurd hc h;exact h
     subst hc;have d1:(y.d == 1)=true:=by simpa using hk
     have p6:=hk;clear hk;have bT:=Jb we (.cells #[(),name,price,True] 41);have e0:=zD o;go_upto_region 14 with fail;replace H:=zg H (.cells #[(),name,price,True] 41);have j5:=G;have j6:=o;replace G:=zg G (.cells #[(),name,price,True] 41);replace o:=zg o (.cells #[(),name,price,True] 41);replace f:=zd f (.cells #[(),name,price,True] 41);have d7:=zg f9 (.cells #[(),name,price,True] 41);have d0:=hI (j1.j0 (zd bZ (.cells #[(),name,price,True] 41)));have d4:Hid (zl we (we.alloc (.cells #[(),name,price,True] 41)) (λb=>b=w.heap.size+1+1∨b=w.heap.size+1+1+1)):=zl.of_below (zd bZ _)
     generalize we.alloc _=wf at bT H G o f d7 d0 d4 ⊢;generalize we.heap.size=tb at bT e0 ⊢;have p0:=H;have pT:=bT;have KS:Hid (∀ z:World,z.heap[w.heap.size]?=some (.cells #[_,_,_] 38 _)->z.heap[tb]?=some (.cells #[(),_,_,_] 41 _)->z.cell? _=some (F,x.i,K)/\z.cell? _=some (t,x.l,J)/\z.cell? _=some (s,x.g,I)/\z.cell? _=some ()/\z.cell? _=some (int i64 name)/\z.cell? _=some (int i64 price)/\z.cell? _=some True):=λz h1 h2=>⟨bC h1 0,bC h1 1,bC h1 2,bC h2 0,bC h2 1,bC h2 2,bC h2 3⟩
     have i8:Hid (∀ Z,_->Calls _ 70 _ Z λe u=>(∃ d1 e1 d2 e2 d3 e3 L C A B D E,e=.returned (.agg #[.slice d1 _ e1,.slice d2 _ e2,.slice d3 _ e3])/\Hid (zz u _ (.slice d1 _ e1) (.slice d2 _ e2) (.slice d3 _ e3) _ _ _ x L C A B D E))/\Below wf wf u):=λZ hZ=>by
      refine(Ee F t s _ _ _ K J I x Z rfl rfl rfl HS.out (T.1.j0 (zb f hZ)) (T.2.1.j0 (zb f hZ)) (T.2.2.1.j0 (zb f hZ))).mono ?_;rintro e u ⟨⟨d1,e1,d2,e2,d3,e3,L',C',A',B',D',E',rfl,h⟩,hb⟩;exact⟨⟨d1,e1,d2,e2,d3,e3,L',C',A',B',D',E',rfl,h.lower (zb f hZ).size⟩,zb hZ hb⟩
     go_region_held3 (λw'=>w'.cell? (w.heap.size,0)=some (F,x.i,K)/\w'.cell? (w.heap.size,1)=some (t,x.l,J)/\w'.cell? (w.heap.size,2)=some (s,x.g,I)/\w'.cell? (tb,0)=some ()/\w'.cell? (tb,1)=some (int i64 name)/\w'.cell? (tb,2)=some (int i64 price)/\w'.cell? (tb,3)=some True)
      (first|(refine KS.out _ ?_ ?_ <;> (repeat(first|with_reducible exact p0|with_reducible exact pT|(with_reducible refine zK ?_)|(with_reducible refine zG ?_ _ _ ?_;rotate_left;(focus omega))))))
      (first
       |(go_simp;go_at_call 70;(with_reducible refine Jm (i8.out _ ?_) ?_);exact dB;rintro e u2 ⟨⟨d1,e1,d2,e2,d3,e3,L9,C9,A9,B9,D9,E9,rfl,S⟩,p⟩;have i7:=hI p;replace p0:=za p0 p;replace pT:=za pT p;have R:=za G p;have O:=za o p;have s0:=bC R 0;have g5:=zc R 0;have s1:=bC R 1;have g6:=zc R 1;have s2:=bC R 2;have g7:=zc R 2;have t0:=bC O 0;have g8:=zc O 0;have t1:=bC O 1;have g9:=zc O 1;have t2:=bC O 2;have i0:=zc O 2;have t3:=bC O 3;have i3:=zc O 3;dsimp only))
     ·have e5:=zb f i7.out
      obtain⟨P,b5,b6,Q,b8⟩:=Hw e5 S.out R O oM oM () name price True rfl;have a8:=hI P;have a7:=hI Q;have i9:=hI b8;clear P Q b8;obtain⟨x0,x1,x2⟩:=ZE b5;obtain⟨z0,z1,z2,z3⟩:=Qk b6;go_wp2;exact Jj (by simp[results,results44,go_sem,x0,x1,x2,z0,z1,z2,z3]) rfl ⟨⟨x,_,_,_,_,_,_,_,_,_,_,_,_,_,_,_,_,rfl,a8.out,.inr (.inr ⟨U.out,M,x3,by rw[← HL.out];exact a0.out,b7.out,λ_=>rfl,λh=>absurd HC.out h⟩),.inl ⟨rfl,λh9=>absurd h9 (b7.nine HC.out)⟩⟩,a7.out⟩
    ·have d1:(d != 0)=true:=by simpa using hc
     have d2:(d == 0)=false:=by simpa using hc
     clear hc;have bT:=Jb we (.cells #[d,name,price,True] 41);have e0:=zD o;go_upto_region 14 with fail;replace H:=zg H (.cells #[d,name,price,True] 41);have j5:=G;have j6:=o;replace G:=zg G (.cells #[d,name,price,True] 41);replace o:=zg o (.cells #[d,name,price,True] 41);replace f:=zd f (.cells #[d,name,price,True] 41);have d7:=zg f9 (.cells #[d,name,price,True] 41);have d0:=hI (j1.j0 (zd bZ (.cells #[d,name,price,True] 41)));have d4:Hid (zl we (we.alloc (.cells #[d,name,price,True] 41)) (λb=>b=w.heap.size+1+1∨b=w.heap.size+1+1+1)):=zl.of_below (zd bZ _)
     generalize we.alloc _=wf at bT H G o f d7 d0 d4 ⊢;generalize we.heap.size=tb at bT e0 ⊢;have p0:=H;have pT:=bT;have KS:Hid (∀ z:World,z.heap[w.heap.size]?=some (.cells #[_,_,_] 38 _)->z.heap[tb]?=some (.cells #[_,_,_,_] 41 _)->z.cell? _=some (F,x.i,K)/\z.cell? _=some (t,x.l,J)/\z.cell? _=some (s,x.g,I)/\z.cell? _=some (int i64 d)/\z.cell? _=some (int i64 name)/\z.cell? _=some (int i64 price)/\z.cell? _=some True):=λz h1 h2=>⟨bC h1 0,bC h1 1,bC h1 2,bC h2 0,bC h2 1,bC h2 2,bC h2 3⟩
     have i8:Hid (∀ Z,_->Calls _ 70 _ Z λe u=>(∃ d1 e1 d2 e2 d3 e3 L C A B D E,e=.returned (.agg #[.slice d1 _ e1,.slice d2 _ e2,.slice d3 _ e3])/\Hid (zz u _ (.slice d1 _ e1) (.slice d2 _ e2) (.slice d3 _ e3) _ _ _ x L C A B D E))/\Below wf wf u):=λZ hZ=>by
      refine(Ee F t s _ _ _ K J I x Z rfl rfl rfl HS.out (T.1.j0 (zb f hZ)) (T.2.1.j0 (zb f hZ)) (T.2.2.1.j0 (zb f hZ))).mono ?_;rintro e u ⟨⟨d1,e1,d2,e2,d3,e3,L',C',A',B',D',E',rfl,h⟩,hb⟩;exact⟨⟨d1,e1,d2,e2,d3,e3,L',C',A',B',D',E',rfl,h.lower (zb f hZ).size⟩,zb hZ hb⟩
     go_region_held3 (λw'=>w'.cell? (w.heap.size,0)=some (F,x.i,K)/\w'.cell? (w.heap.size,1)=some (t,x.l,J)/\w'.cell? (w.heap.size,2)=some (s,x.g,I)/\w'.cell? (tb,0)=some (int i64 d)/\w'.cell? (tb,1)=some (int i64 name)/\w'.cell? (tb,2)=some (int i64 price)/\w'.cell? (tb,3)=some True)
      (first|(refine KS.out _ ?_ ?_ <;> (repeat(first|with_reducible exact p0|with_reducible exact pT|(with_reducible refine zK ?_)|(with_reducible refine zG ?_ _ _ ?_;rotate_left;(focus omega))))))
      (first
       |(go_simp;go_at_call 70;(with_reducible refine Jm (i8.out _ ?_) ?_);exact dB;rintro e u2 ⟨⟨d1,e1,d2,e2,d3,e3,L9,C9,A9,B9,D9,E9,rfl,S⟩,p⟩;have i7:=hI p;replace p0:=za p0 p;replace pT:=za pT p;have R:=za G p;have O:=za o p;have s0:=bC R 0;have g5:=zc R 0;have s1:=bC R 1;have g6:=zc R 1;have s2:=bC R 2;have g7:=zc R 2;have t0:=bC O 0;have g8:=zc O 0;have t1:=bC O 1;have g9:=zc O 1;have t2:=bC O 2;have i0:=zc O 2;have t3:=bC O 3;have i3:=zc O 3;dsimp only))
     ·have e5:=zb f i7.out
      obtain⟨P,b5,b6,Q,b8⟩:=Hw e5 S.out R O oM oM d name price True rfl;have a8:=hI P;have a7:=hI Q;have i9:=hI b8;clear P Q b8;obtain⟨x0,x1,x2⟩:=ZE b5;obtain⟨z0,z1,z2,z3⟩:=Qk b6;go_wp2;exact Jj (by simp[results,results44,go_sem,x0,x1,x2,z0,z1,z2,z3]) rfl ⟨⟨x,_,_,_,_,_,_,_,_,_,_,_,_,_,_,_,_,rfl,a8.out,.inr (.inr ⟨U.out,M,x3,by rw[← HL.out];exact a0.out,b7.out,λ_=>rfl,λh=>absurd HC.out h⟩),.inl ⟨rfl,λh9=>absurd h9 (b7.nine HC.out)⟩⟩,a7.out⟩
   obtain⟨hc,hk⟩:=hc;subst hc;have d1:(y.d == 1)=false:=by simpa using hk
   have m6:=hI hk;clear hk;have m2:x3.i=x.i/\_:=⟨b7.size.1,b7.size.2.trans e8.out⟩;obtain⟨p9,o7,p8,o6,d9,n1⟩:=x3;obtain⟨e1,e2⟩:=m2;dsimp only at e1 e2 f9;subst e1;subst e2;have k6:Hid (zz we _ _ _ (f5,d9,f6) _ _ d9 _ L C A B D E'):=j1.out;have bT:=Jb we (.cells #[(),name,price,(ra,rn,rc)] 41);have e0:=zD o;go_upto_region 15 with fail;replace H:=zg H (.cells #[(),name,price,(ra,rn,rc)] 41);have j5:=G;have j6:=o;replace G:=zg G (.cells #[(),name,price,(ra,rn,rc)] 41);replace o:=zg o (.cells #[(),name,price,(ra,rn,rc)] 41);replace f:=zd f (.cells #[(),name,price,(ra,rn,rc)] 41);have d7:=zg f9 (.cells #[(),name,price,(ra,rn,rc)] 41);have d0:=hI (k6.j0 (zd bZ (.cells #[(),name,price,(ra,rn,rc)] 41)));have d4:Hid (zl we (we.alloc (.cells #[(),name,price,(ra,rn,rc)] 41)) (λb=>b=w.heap.size+1+1∨b=w.heap.size+1+1+1)):=zl.of_below (zd bZ _)
   generalize we.alloc _=wf at bT H G o f d7 d0 d4 ⊢;generalize we.heap.size=tb at bT e0 ⊢;have p0:=d7;have pT:=bT;have KS:Hid (∀ z:World,z.heap[qb]?=some (.cells #[_,_,_] 38 _)->z.heap[tb]?=some (.cells #[(),_,_,_] 41 _)->z.cell? _=some (a1,x.i,c1)/\z.cell? _=some (a2,x.i,c2)/\z.cell? _=some (f5,d9,f6)/\z.cell? _=some ()/\z.cell? _=some (int i64 name)/\z.cell? _=some (int i64 price)/\z.cell? _=some (ra,rn,rc)):=λz h1 h2=>⟨bC h1 0,bC h1 1,bC h1 2,bC h2 0,bC h2 1,bC h2 2,bC h2 3⟩
   have R:=G;have O:=o;obtain⟨s0,s1,s2⟩:=ZE R;obtain⟨g5,g6,g7⟩:=FM R;obtain⟨t0,t1,t2,t3⟩:=Qk O;obtain⟨g8,g9,i0,i3⟩:=EV O;go_region_held3 (λw'=>w'.cell? (qb,0)=some (a1,x.i,c1)/\w'.cell? (qb,1)=some (a2,x.i,c2)/\w'.cell? (qb,2)=some (f5,d9,f6)/\w'.cell? (tb,0)=some ()/\w'.cell? (tb,1)=some (int i64 name)/\w'.cell? (tb,2)=some (int i64 price)/\w'.cell? (tb,3)=some (ra,rn,rc))
    (first|(refine KS.out _ ?_ ?_ <;> (repeat(first|with_reducible exact p0|with_reducible exact pT|(with_reducible refine zK ?_)|(with_reducible refine zG ?_ _ _ ?_;rotate_left;(focus omega))))))
    (fail)
   ·have e5:=f
    obtain⟨P,b5,b6,Q,b8⟩:=Hw e5 (d0.lower i5) R O oM oM () name price (ra,rn,rc) rfl;have a8:=hI (P.j0 (Jh bZ));have a7:=hI (Jh Q);have i9:=hI (b8.trans (zl.of_below (Jh bZ)));clear P Q b8;obtain⟨x0,x1,x2⟩:=ZE (zK b5);obtain⟨z0,z1,z2,z3⟩:=Qk (zK b6);go_wp2;refine Jj (by simp[results,results44,go_sem,x0,x1,x2,z0,z1,z2,z3]) rfl ⟨⟨⟨x.i,o7,x.i,o6,d9,n1⟩,a1,c1,a2,c2,f5,f6,0,name,price,.slice ra rn rc,L,C,A,B,D,E',rfl,?_,?_,?_⟩,a7.out⟩
    ·exact a8.out
    ·exact .inr (.inr ⟨U.out,M,_,by rw[← HL.out];exact a0.out,b7.out,λh=>by rcases h with h|h;exact absurd rfl h;exact absurd h m6.out,λ_=>rfl⟩)
    ·exact .inr ⟨M,_,U.out,by rw[← HL.out];exact a0.out,FG k8.out (d4.trans i9.out) (λg e=>by rcases e with e|e;exact⟨_,_,by rw[e];exact j5,by decide⟩;exact⟨_,_,by rw[e];exact j6,by decide⟩)⟩
def Tb (x:zY)(a:Int)(y:qD)(m base:Nat)(e:Ending)(w':World):Prop :=
 (qS x/\Cq x.g x.u a/\∃ x2 a1 c1 a2 c2 a3 c3 code name price rv L C A B D E,e=.returned (.tuple #[.agg #[.slice a1 x2.i c1,.slice a2 x2.l c2,.slice a3 x2.g c3],.agg #[int i64 code,int i64 name,int i64 price,rv],.bool true]) /\
  zz w' base (.slice a1 x2.i c1) (.slice a2 x2.l c2) (.slice a3 x2.g c3) x2.i x2.l x2.g x2 L C A B D E/\EU x a y m x2 code name price/\ix x a y m code w' rv) ∨
 (¬ (qS x/\Cq x.g x.u a)/\e=.returned (.tuple #[.agg #[True,True,True],.agg #[(),(),(),True],.bool false]))
theorem Rk (x:zY)(l k j o:Option Addr)(q p n t m:Nat)(F:Int)(y:qD)(w:World)(hs:zY.Short x 1048576)(b5:qy w l x.i x.G)(a8:ZA w k x.l x.F)(a5:qL w j x.g x.u)(f4:x.g<=n)(a9:zS w o y.c y.J)(b6:qm o y.c t)(hl:y.c<=1048576)(ho:y.j1.size<=1048576)(hm:QE y->In y.d 4 8->y.k=(m:Int)+1/\m<=1048576) :
  Calls prog 8 #[.agg #[(l,x.i,q),(k,x.l,p),(j,x.g,n)],F,.agg (y,o,t)] w λe w'=>Tb x F y m w.heap.size e w'/\Below w w w':=by
 have HS:=hI hs;have G:Hid (_/\_/\_/\_/\_):=⟨b5,a8,a5,a9,b6⟩;have HN:=hI hm;clear hs b5 a8 a5 a9 b6 hm;have a:Below _ w ((((w.alloc (.cells #[(l,x.i,q),(k,x.l,p),(j,x.g,n)] 38)).alloc (.cells (y,o,t) 47)).alloc (.cells #[True,True,True] 38)).alloc (.cells #[(),(),(),True] 41)):=zd (zd (zd (zd bZ _) _) _) _;have O:=zg (zg (zg (Jb w (.cells #[(l,x.i,q),(k,x.l,p),(j,x.g,n)] 38)) (.cells (y,o,t) 47)) (.cells #[True,True,True] 38)) (.cells #[(),(),(),True] 41);have T:=zg (zg (EB w (.cells #[(l,x.i,q),(k,x.l,p),(j,x.g,n)] 38) (.cells (y,o,t) 47)) (.cells #[True,True,True] 38)) (.cells #[(),(),(),True] 41);have s:=zg (show(((w.alloc (.cells #[(l,x.i,q),(k,x.l,p),(j,x.g,n)] 38)).alloc (.cells (y,o,t) 47)).alloc _).heap[w.heap.size+1+1]?=some (.cells #[True,True,True] 38 (0,0)) from by simpa using Jb ((w.alloc _).alloc _) _) (.cells #[(),(),(),True] 41)
 have r:=lw a;go_enter func8,ntmps8;go_wp2_with fail;generalize ((((w.alloc _).alloc _).alloc _).alloc _)=W at a O T s r ⊢;refine(Rj x l k j q p n _ HS (G.1.j0 a) (G.2.1.j0 a) (G.2.2.1.j0 a) f4).mono ?_;rintro e V ⟨⟨t0,rfl,b7⟩,d⟩;have R:=hI b7;replace a:=zb a d;replace O:=za O d;replace T:=za T d;replace s:=za s d;replace r:=za r d;clear d W b7;obtain⟨f0,f1,f2⟩:=ZE O
 cases t0 with
 |false =>
  have HF:Hid (¬ (_/\Cq x.g x.u F)):=λh=>by have:=R.2 h.1;cases this
  obtain⟨s0,s1,s2⟩:=ZE s;obtain⟨c0,c9,d0⟩:=FM s;obtain⟨t0,t1,t2,t3⟩:=Qk r;obtain⟨d4,d5,d6,d7⟩:=EV r;have U:=(IP _ (w.heap.size+1+1) True True True).blk r (by show _;omega)
  have q2:=Fp s True True True;have q3:=(AR _ (w.heap.size+1+1+1) () () () True).blk q2 (by show _;omega)
  have q4:=Cy U () () () True;have P:=hI (zl.j0 (zl.j0 a a.size (IP _ (w.heap.size+1+1) True True True) (λb e=>by have e:=e;omega)) (by have:=a.size;simpa using this) (AR _ (w.heap.size+1+1+1) () () () True) (λb e=>by have e:=e;omega))
  go_wp2;obtain⟨x0,x1,i⟩:=ZE q3;obtain⟨z0,z1,z2,z3⟩:=Qk q4;exact Jj (by simp[results,results8,go_sem,x0,x1,i,z0,z1,z2,z3]) rfl ⟨.inr ⟨HF.out,rfl⟩,P.out⟩
 |true =>
 have a1:=hI (R.1 rfl);clear R;go_wp2_with fail;refine(Rb l k j _ _ _ q p n x F _ (by have:=HS.2.2.1;omega) (G.2.2.1.j0 a)).mono ?_
 rintro e V2 ⟨⟨t1,rfl,b8⟩,d⟩;have S:=hI b8;replace a:=zb a d;replace O:=za O d;replace T:=za T d;replace s:=za s d;replace r:=za r d;clear d b8 f0 f1 f2 V
 cases t1 with
 |false =>
  have HF:Hid (¬ (qS x/\_)):=λh=>by have:=S.2 h.2;cases this
  obtain⟨s0,s1,s2⟩:=ZE s;obtain⟨c0,c9,d0⟩:=FM s;obtain⟨t0,t1,t2,t3⟩:=Qk r;obtain⟨d4,d5,d6,d7⟩:=EV r;have U:=(IP _ (w.heap.size+1+1) True True True).blk r (by show _;omega)
  have q2:=Fp s True True True;have q3:=(AR _ (w.heap.size+1+1+1) () () () True).blk q2 (by show _;omega)
  have q4:=Cy U () () () True;have P:=hI (zl.j0 (zl.j0 a a.size (IP _ (w.heap.size+1+1) True True True) (λb e=>by have e:=e;omega)) (by have:=a.size;simpa using this) (AR _ (w.heap.size+1+1+1) () () () True) (λb e=>by have e:=e;omega))
  go_wp2;obtain⟨x0,x1,i⟩:=ZE q3;obtain⟨z0,z1,z2,z3⟩:=Qk q4;exact Jj (by simp[results,results8,go_sem,x0,x1,i,z0,z1,z2,z3]) rfl ⟨.inr ⟨HF.out,rfl⟩,P.out⟩
 |true =>
 have Q:=hI (S.1 rfl);clear S;obtain⟨f0,f1,f2⟩:=ZE O;obtain⟨h0,h1,h2,h3,h4,h5,h6,h7,h8,h9,e7,e8⟩:=DQ T;go_wp2_with fail;refine(jc x l k j o q p n t m F y _ HS (G.1.j0 a) (G.2.1.j0 a) (G.2.2.1.j0 a) (G.2.2.2.1.j0 a) G.2.2.2.2 hl ho a1 Q.1 Q.2 HN).mono ?_;rintro e u ⟨⟨i,Y,e1,Z,e2,d3,e3,f,name,price,rv,L,C,A,B,D,E,rfl,b4,b9,X⟩,H⟩;have e4:=hI (b4.lower a.size);have e6:=hI b9;obtain⟨J,N,K,rfl⟩:∃ J N K,rv=.slice J N K:=by
  rcases X with⟨h,_⟩|⟨M,b,_,_,h⟩
  ·exact⟨_,_,_,h⟩
  ·by_cases h9:y.d=9
   ·obtain⟨_,_,_,h3⟩:=h.1 h9
    obtain⟨ao,c,e,_⟩:=zn h3;exact⟨ao,_,c,e⟩
   ·exact⟨_,0,0,h.2 h9⟩
 have e5:Hid _:=X;replace a:=zb a H;replace s:=za s H;replace r:=za r H;clear b4 b9 X H f0 f1 f2 h0 h1 h2 h3 h4 h5 h6 h7 h8 h9 e7 e8 O T V2;have e9:=zD r;go_upto_region 4 with fail;have pA:=zg (Jb u (.cells #[(Y,i.i,e1),(Z,i.l,e2),(d3,i.g,e3)] 38)) (.cells #[f,name,price,(J,N,K)] 41);have pB:=EB u (.cells #[(Y,i.i,e1),(Z,i.l,e2),(d3,i.g,e3)] 38) (.cells #[f,name,price,(J,N,K)] 41);have v:Below _ u ((u.alloc (.cells #[(Y,i.i,e1),(Z,i.l,e2),(d3,i.g,e3)] 38)).alloc (.cells #[f,name,price,(J,N,K)] 41)):=zd (zd bZ _) _;have a2:=hI (e4.j0 v);have r2:=za s v;have r3:=za r v;have a6:=zb a v;have a3:Hid (zl u _ (λb=>b=w.heap.size+1+1∨b=w.heap.size+1+1+1)):=zl.of_below v
 generalize (u.alloc _).alloc _=wf at pA pB v a2 r2 r3 a6 a3 ⊢;generalize u.heap.size=I at pA pB e9 ⊢;have p0:=pA;have pT:=pB;have KS:Hid (∀ z:World,z.heap[I]?=some (.cells #[_,_,_] 38 _)->z.heap[I+1]?=some (.cells #[_,_,_,_] 41 _)->z.cell? _=some (Y,i.i,e1)/\z.cell? _=some (Z,i.l,e2)/\z.cell? _=some (d3,i.g,e3)/\z.cell? _=some (int i64 f)/\z.cell? _=some (int i64 name)/\z.cell? _=some (int i64 price)/\z.cell? _=some (J,N,K)):=λz h1 h2=>⟨bC h1 0,bC h1 1,bC h1 2,bC h2 0,bC h2 1,bC h2 2,bC h2 3⟩
 obtain⟨s0,s1,s2⟩:=ZE r2;obtain⟨c0,c9,d0⟩:=FM r2;obtain⟨t0,t1,t2,t3⟩:=Qk r3;obtain⟨d4,d5,d6,d7⟩:=EV r3;go_region_held3 (λw'=>w'.cell? (I,0)=some (Y,i.i,e1)/\w'.cell? (I,1)=some (Z,i.l,e2)/\w'.cell? (I,2)=some (d3,i.g,e3)/\w'.cell? (I+1,0)=some (int i64 f)/\w'.cell? (I+1,1)=some (int i64 name)/\w'.cell? (I+1,2)=some (int i64 price)/\w'.cell? (I+1,3)=some (J,N,K))
  (first|(refine KS _ ?_ ?_ <;> (repeat(first|with_reducible exact p0|with_reducible exact pT|(with_reducible refine zK ?_)|(with_reducible refine zG ?_ _ _ ?_;rotate_left;(focus omega))))))
  (fail)
 obtain⟨a0,f7,f8,a4,a7⟩:=Hw a6 a2.out r2 r3 oM oM (int i64 f) (int i64 name) (int i64 price) (.slice J N K) rfl;have e0:=hI (a0.j0 (Jh bZ));have d8:=hI (Jh a4);have d9:=hI (a7.trans (zl.of_below (Jh bZ)));clear a0 a4 a7;obtain⟨x0,x1,f9⟩:=ZE (zK f7);obtain⟨z0,z1,z2,z3⟩:=Qk (zK f8);go_wp2;refine Jj (by simp[results,results8,go_sem,x0,x1,f9,z0,z1,z2,z3]) rfl ⟨.inl ⟨a1.out,Q.out,i,Y,e1,Z,e2,d3,e3,_,_,_,.slice J N K,L,C,A,B,D,E,rfl,?_,e6.out,?_⟩,d8.out⟩
 ·exact e0
 ·rcases e5 with h|⟨M,b,f5,f6,h⟩
  ·exact .inl h
  ·exact .inr ⟨M,b,f5,f6,FG h (a3.trans d9) (λg e=>by rcases e with e|e;exact⟨_,_,by rw[e];exact s,by decide⟩;exact⟨_,_,by rw[e];exact r,by decide⟩)⟩
theorem Tb.j3 {d:Int}{e:Ending}{w':World}(h:Tb x d y m base e w'):∃ rb c a name price N T ok,ja x d y m c a name price N T ok/\GQ base rb c a name price N T ok e w':=by
 rcases h with⟨h1,h2,c,f,c1,g,c2,i,c3,a,name,price,rv,L,C,A,B,D,E,rfl,j,l,hr⟩|⟨h,rfl⟩
 ·rcases hr with⟨rfl,hr⟩|⟨M,b,r,s,hr⟩
  ·exact⟨0,c,_,_,_,0,BS [],_,.inl ⟨⟨h1,h2⟩,rfl,l,.inl ⟨rfl,hr⟩⟩,f,c1,g,c2,i,c3,_,0,L,C,A,B,D,E,rfl,j,Cj w' 0 _ _⟩
  ·by_cases h9:y.d=9
   ·obtain rfl:=s.nine h9
    obtain⟨k,rfl,_,n⟩:=hr.1 h9;obtain⟨o,p,rfl,_⟩:=zn n;exact⟨b,c,_,_,_,_,_,_,.inl ⟨⟨h1,h2⟩,rfl,l,.inr ⟨h9,r,rfl,rfl⟩⟩,f,c1,g,c2,i,c3,o,p,L,C,A,B,D,E,rfl,j,n⟩
   ·obtain rfl:=hr.2 h9
    exact⟨0,c,_,_,_,0,BS [],_,.inl ⟨⟨h1,h2⟩,rfl,l,.inl ⟨rfl,λq=>absurd q h9⟩⟩,f,c1,g,c2,i,c3,_,0,L,C,A,B,D,E,rfl,j,Cj w' 0 _ _⟩
 ·exact⟨0,_,0,0,0,0,BS [],_,.inr ⟨h,rfl,rfl,rfl,rfl,rfl,rfl⟩,GQ.no x _ 0 _ w'⟩
theorem Rs {M:Nat->zw}{n:Nat}(hB:60<=B)(hn:n=x.i)(h:∀ i,i<x.i->qf (x.G i) (M i)):Zy n M B:=λi hi=>by
 have g:=h i oM;exact⟨by have:=((QQ _ _ _).1 g.1).2.1;show _<=_;omega,by have:=g.2.1.2.1;show _<=_;omega,by have:=g.2.2.2.1;show _<=_;omega⟩
theorem Eg.short {d:Int}{g:zY}(h:Eg x d y m g a name price)(l:zY.Short x B)(hB:60<=B)(f:y.j1.size<=B)(hl:y.c<=3):zY.Short g B:=by
 obtain⟨h1,h2,h3⟩:=l
 rcases h with⟨_,rfl,_⟩|⟨_,rfl,_⟩|⟨_,_,rfl,_⟩|⟨_,j,rfl,_⟩|⟨_,k,rfl,_⟩
 ·exact⟨h1,h2,h3⟩
 ·exact⟨h1,h2,h3⟩
 ·exact⟨h1,h2,h3⟩
 ·refine⟨h1,h2,by show x.g+1<=B;omega,λi e=>?_⟩
  by_cases c:i=x.g
  ·show zA.Short (Qq _ _ _ i) B
   rw[c,ZS];exact⟨f,by show y.c<=B;omega⟩
  ·show zA.Short (Qq _ _ _ i) B
   rw[Au _ _ _ c];exact h3.2 i (by have:i<x.g+1:=e;omega)
 ·refine⟨h1,h2,h3.1,λi e=>?_⟩
  show zA.Short (Qq _ m _ i) B
  by_cases c:i=m
  ·rw[c,ZS]
   have b:=h3.2 m k;unfold Zd
   split
   ·exact b
   ·split
    ·exact⟨b.1,by show y.c<=B;omega⟩
    ·split
     ·exact b
     ·split
      ·exact⟨f,b.2⟩
      ·exact b
  ·rw[Au _ _ _ c]
   exact h3.2 i e
theorem EU.short {d:Int}{g:zY}(h:EU x d y m g a name price)(i:qS x)(b:zY.Short x B)(f:60<=B)(l:y.j1.size<=B):zY.Short g B:=by
 rcases h with⟨_,rfl,_⟩|⟨_,_,rfl,_⟩|⟨k,M,x3,e,j,h1,h2⟩
 ·exact b
 ·exact b
 ·by_cases c:a≠0∨y.d=1
  ·rw[h1 c];exact b
  ·rw[h2 c]
   exact j.short ⟨b.1,⟨b.2.1.1,Rs f i.2.1 e.good⟩,b.2.2⟩ f l (Kn k.1).2
theorem EU.few {e:Int}{d:zY}(h:EU x e y m d b name price)(f:qS x):d.g<=30/\d.i=x.i/\d.G=x.G:=by
 have a:=f.2.2.1
 rcases h with⟨_,rfl,_⟩|⟨_,_,rfl,_⟩|⟨hf,M,x3,i,g,h1,h2⟩
 ·exact⟨a,rfl,rfl⟩
 ·exact⟨a,rfl,rfl⟩
 ·by_cases c:b≠0∨y.d=1
  ·rw[h1 c];exact⟨a,rfl,rfl⟩
  ·rw[h2 c]
   rcases g with⟨_,rfl,_⟩|⟨_,rfl,_⟩|⟨_,_,rfl,_⟩|⟨_,h3,rfl,_⟩|⟨_,_,rfl,_⟩
   ·exact⟨a,rfl,rfl⟩
   ·exact⟨a,rfl,rfl⟩
   ·exact⟨a,rfl,rfl⟩
   ·exact⟨by have h3:x.g<30:=h3;show x.g+1<=30;omega,rfl,rfl⟩
   ·exact⟨a,rfl,rfl⟩
theorem jh (h:QE y)(a:In y.d 4 8):y.k=(((y.k - 1).toNat:Nat):Int)+1/\(y.k - 1).toNat<=1048576:=by
 have q:=h.2.2.1;unfold Bv at q;rw[Jf a] at q;unfold In at q
 omega
theorem dv (t:zY.Short x 1048576)(q:qD.Short y 1048576)(s:QE y->In y.d 4 8->y.k=(m:Int)+1/\m<=1048576)(h1:zY.Is u c x)(h2:qD.Is u d y) :
  Calls prog 8 #[.agg c.toArray,a,.agg d.toArray] u λe p=>IT (λ_=>ja x a y m) u.heap.size e p/\Below u u p:=by
 obtain⟨j,o,g,l,f,k,rfl,w,q1,z,q2,A,C⟩:=h1;obtain⟨i,n,rfl,B,D⟩:=h2;refine(Rk x j g f i o l k n m a y u t w z A C.1 B D q.2 q.1 s).mono ?_;rintro e p ⟨h,r⟩;obtain⟨E,F,b,name,price,N,T,ok,hr,v⟩:=h.j3;exact⟨⟨E,F,b,name,price,N,T,ok,hr,v⟩,r⟩
theorem dw {g:Int}{pe:Nat->Addr}{B:zY}{f:Int}{N:Nat}{T:Nat->Ao}(H:zY.Short x 1048576)(A:qD.Short y 1048576)(G:QE y->In y.d 4 8->y.k=(m:Int)+1/\m<=1048576)
  (C:Ze u) (t:Zn u/\Zp u) (E:qI u pe) (F:u.cell? (0,0)=some (.iface 284 (.agg #[.pointer (some (12,92))]))) (hr:ja x g y m B f name price N T ok) (h1:zY.Is u c x) (h2:qD.Is u d y) :
  Calls prog 11 #[.agg c.toArray,g,.agg d.toArray] u λe z=>GQ u.heap.size u.heap.size B f name price N T ok e z/\Below u u z:=by
 have s:=h1;obtain⟨l,r,j,o,i,n,rfl,p1,q1,p2,q2,p3,q3⟩:=h1;obtain⟨k,p,rfl,K,L⟩:=h2;refine(Ri x l j i k r o n p m g y pe u H C t E F s K L A.1 A.2 (λa b=>(G a b).1)).mono ?_
 rintro e z ⟨⟨M,q,w,h,N',T',J,v,I⟩,D⟩;obtain⟨rfl,rfl,rfl,rfl,rfl,t,rfl⟩:=v.one hr;exact⟨I.rows t,D⟩
theorem zz.noBox {w:World}{v1 v2 v3:Value}{d f j:Nat}{L C A B D E:Nat->Value}{g t:Nat}{cs:Array Value}(h:zz w base v1 v2 v3 d f j x L C A B D E)(a:w.heap[g]?=some (.cells cs t (0,0)))(k:140≠t/\223≠t/\231≠t/\145≠t/\220≠t/\228≠t/\234≠t/\150≠t/\3≠t):∀ b,Rp v1 v2 v3 d f j L C A B D E b->b≠g:=by
 obtain⟨l,m,n,o,p,q,r,s,u⟩:=k;rintro b ((e|⟨i,c,e|e⟩)|e|⟨i,c,e|e|e⟩|e|⟨i,c,e⟩)
 ·exact zQ h.G.row a l b e
 ·exact zQ (h.G.la i c) a m b e
 ·exact zQ (h.G.M i c) a n b e
 ·exact zQ h.F.row a o b e
 ·exact zQ (h.F.K i c) a p b e
 ·exact zQ (h.F.I i c) a q b e
 ·exact zQ (h.F.L i c) a r b e
 ·exact zQ h.u.row a s b e
 ·exact zQ (h.u.j4 i c) a u b e
theorem pk {P G:Prop}(p:P)(h:P->G):G:=h p
theorem EU.lds {d:zY}(h:EU x b y m d a name price):d.l=x.l:=by
 rcases h with⟨_,rfl,_⟩|⟨_,_,rfl,_⟩|⟨hf,M,x3,f,e,h1,h2⟩
 ·rfl
 ·rfl
 ·by_cases c:a≠0∨y.d=1
  ·rw[h1 c]
  ·rw[h2 c]
   rcases e with⟨_,rfl,_⟩|⟨_,rfl,_⟩|⟨_,_,rfl,_⟩|⟨_,h3,rfl,_⟩|⟨_,_,rfl,_⟩ <;> rfl
theorem dx {e:Int}{d:zY}{N:Nat}{T:Nat->Ao}(g:zY.Short x 1048576)(j:qD.Short y 1048576)(h:ja x e y m d b name price N T ok):(zY.Short d 1048576/\d.i<=1000/\d.l<=1000/\d.g<=1000)/\N<=1048576:=by
 rcases h with⟨⟨c,hf⟩,_,a,f⟩|⟨_,_,rfl,_,_,_,rfl⟩
 ·have h2:=a.short c g dC j.1
  obtain⟨q1,q2,q3⟩:=a.few c;have t1:=c.1.1;have t2:=c.2.2.1;refine⟨⟨h2,by omega,?_,by omega⟩,?_⟩
  ·have:=a.lds;have:=c.2.1;omega
  ·rcases f with⟨rfl,_⟩|⟨_,_,rfl,_⟩
   ·omega
   ·have:=PS (x.F (zX x.G (y.J 0) x.i)) x.u (y.J 0) x.g
    omega
 ·exact⟨⟨⟨⟨Jq _,λi h=>absurd h (by show ¬ i<0;omega)⟩,⟨Jq _,λi h=>absurd h (by show ¬ i<0;omega)⟩,⟨Jq _,λi h=>absurd h (by show ¬ i<0;omega)⟩⟩,Jq _,Jq _,Jq _⟩,Jq _⟩
theorem lm (cs os:List Value)(x:zY)(y:qD)(b1:Int)(pe:Nat->Addr)(w:World)(hs:zY.Short x 1000000000000000)(hi:zY.Is w cs x)(hr:qD.Short y 1000000000000000)(hj:qD.Is w os y)(hF:Ze w)(hT:Zn w/\Zp w)(he:qI w pe)(hg:w.cell? ⟨0,0,none⟩=some (.iface 284 (.agg #[.pointer (some ⟨12,92,none⟩)]))) :
  Calls prog 3 #[.agg cs.toArray,int i64 b1,.agg os.toArray] w λe w'=>e=.returned (.bool true)/\Below w w w':=by
 have e5:Hid (zY.Is w cs x):=hi;have e7:Hid (qD.Is w os y):=hj;obtain⟨a6,b0,a4,a8,a0,a7,rfl,h1,s1,h2,s2,h3,s3⟩:=hi;obtain⟨a5,a9,rfl,g1,g2⟩:=hj;clear h1 s1 h2 s2 h3 s3 g1 g2;have HS:Hid (zY.Short x 1000000000000000/\qD.Short y 1000000000000000):=⟨hs,hr⟩;have HG:Hid (Ze w/\(Zn w/\Zp w)/\qI w pe/\w.cell? ⟨0,0,none⟩=some (.iface 284 (.agg #[.pointer (some ⟨12,92,none⟩)]))):=⟨hF,hT,he,hg⟩;clear hs hr hF hT he hg;have HB:Below w w ((w.alloc (.cells #[.slice a6 x.i b0,.slice a4 x.l a8,.slice a0 x.g a7] 26)).alloc (.cells #[int i64 y.d,.string y.j1,int i64 y.k,.slice a5 y.c a9,int i64 y.v,int i64 y.f,int i64 y.j,int i64 y.w,.bool y.h,int i64 y.x,int i64 y.y,int i64 y.D] 31)):=zd (zd bZ _) _;have A:=Cs HB;have B:=Dt HB;have h0:Hid (w.heap.size+1<((w.alloc (.cells #[.slice a6 x.i b0,.slice a4 x.l a8,.slice a0 x.g a7] 26)).alloc (.cells #[int i64 y.d,.string y.j1,int i64 y.k,.slice a5 y.c a9,int i64 y.v,int i64 y.f,int i64 y.j,int i64 y.w,.bool y.h,int i64 y.x,int i64 y.y,int i64 y.D] 31)).heap.size):=zD B;go_enter func3,ntmps3;go_wp2_with fail;generalize ((w.alloc (.cells #[.slice a6 x.i b0,.slice a4 x.l a8,.slice a0 x.g a7] 26)).alloc (.cells #[int i64 y.d,.string y.j1,int i64 y.k,.slice a5 y.c a9,int i64 y.v,int i64 y.f,int i64 y.j,int i64 y.w,.bool y.h,int i64 y.x,int i64 y.y,int i64 y.D] 31))=wA at HB A B h0 ⊢;refine(NI _ x _ HS.1 (e5.j0 HB)).mono ?_;rintro e w1 ⟨r,rfl,hr,f⟩;replace A:=za A f;replace B:=za B f;replace HB:=zb HB f;have k5:Hid (w.heap.size+1<w1.heap.size):=Nat.lt_of_lt_of_le h0.out f.size;clear f h0
 rcases hr with rfl|⟨r0,r1,ht⟩
 ·go_wp2
  go_ret;exact⟨rfl,HB⟩
 have d0:decide (r<0)=false:=by simpa using r0
 have HT:Hid (zY.Short x 1048576):=ht;clear ht;obtain⟨q0,q1,q2,q3,q4,q5,q6,q7,q8,q9,f8,f9⟩:=DQ B;go_wp2_with fail;refine(ff _ y r _ r0 r1 HS.2 (e7.j0 HB)).mono ?_;rintro e w2 ⟨r',rfl,hr,f⟩;clear q0 q1 q2 q3 q4 q5 q6 q7 q8 q9 f8 f9 d0 r0 r1;replace A:=za A f;replace B:=za B f;replace HB:=zb HB f;have k6:Hid (w.heap.size+1<w2.heap.size):=Nat.lt_of_lt_of_le k5.out f.size;clear f k5
 rcases hr with rfl|⟨r0,_,ht⟩
 ·go_wp2
  go_ret;exact⟨rfl,HB⟩
 have d0:decide (r'<0)=false:=by simpa using r0
 have HU:Hid (qD.Short y 1048576):=ht;clear ht HS r0;obtain⟨pA,f6⟩:=nM w.heap.size;obtain⟨F,f7⟩:=nM (w.heap.size+1);rw[← f6] at A;rw[← f7] at B;have HP:Hid (pA=w.heap.size/\F=w.heap.size+1):=⟨f6,f7⟩;obtain⟨m,hm⟩:=nM ((y.k - 1).toNat);have HM:Hid (QE y->In y.d 4 8->y.k=(m:Int)+1/\m<=1048576):=by rw[hm];exact jh
 clear hm;have k9:Hid (∀ c d u,zY.Is u c x->qD.Is u d y->Calls prog 8 #[.agg c.toArray,int i64 b1,.agg d.toArray] u λe u'=>IT (λ_=>ja x b1 y m) u.heap.size e u'/\Below u u u'):=λc d u h1 h2=>dv HT.out HU.out HM.out h1 h2
 have HI:=hI (e5.j0 HB);have HJ:=hI (e7.j0 HB);rw[← f7,← f6];clear f6 f7;go_upto_region 8 with fail;go_cut [8,9,10] (λs8 s9 j9 wx=>∃ b8 b9 ok,s8=.pointer (some ⟨b8,0,none⟩)/\s9=.pointer (some ⟨b9,0,none⟩)/\j9=.bool ok/\Hid ((wx.heap[pA]?=some (.cells #[.slice a6 x.i b0,.slice a4 x.l a8,.slice a0 x.g a7] 26 (0,0))/\wx.heap[F]?=some (.cells #[int i64 y.d,.string y.j1,int i64 y.k,.slice a5 y.c a9,int i64 y.v,int i64 y.f,int i64 y.j,int i64 y.w,.bool y.h,int i64 y.x,int i64 y.y,int i64 y.D] 31 (0,0)))/\nf (λ_=>ja x b1 y m) w2.heap.size b8 b9 ok wx/\Below w2 w2 wx/\w2.heap.size<=b8/\w2.heap.size<=b9))
 case first =>
  have h7:Hid (RG w2 w2.drew pA F #[.slice a6 x.i b0,.slice a4 x.l a8,.slice a0 x.g a7] #[int i64 y.d,.string y.j1,int i64 y.k,.slice a5 y.c a9,int i64 y.v,int i64 y.f,int i64 y.j,int i64 y.w,.bool y.h,int i64 y.x,int i64 y.y,int i64 y.D] x y (λ_=>ja x b1 y m) none none none none none):=⟨bZ.drew,za A bZ.drew,za B bZ.drew,λ_ e=>(by cases e),λ_ e=>(by cases e),λ_ e=>(by cases e),λ_ e=>(by cases e),λ_ e=>(by cases e)⟩
  clear A B HB;refine pk ?_ (by
   intro e9;have g:=h7;refine qt 15 15 (λu=>u.cell? ⟨pA,0,none⟩=some (.slice a6 x.i b0)/\u.cell? ⟨pA,1,none⟩=some (.slice a4 x.l a8)/\u.cell? ⟨pA,2,none⟩=some (.slice a0 x.g a7)/\u.cell? ⟨F,0,none⟩=some (int i64 y.d)/\u.cell? ⟨F,1,none⟩=some (.string y.j1)/\u.cell? ⟨F,2,none⟩=some (int i64 y.k)/\u.cell? ⟨F,3,none⟩=some (.slice a5 y.c a9)/\u.cell? ⟨F,4,none⟩=some (int i64 y.v)/\u.cell? ⟨F,5,none⟩=some (int i64 y.f)/\u.cell? ⟨F,6,none⟩=some (int i64 y.j)/\u.cell? ⟨F,7,none⟩=some (int i64 y.w)/\u.cell? ⟨F,8,none⟩=some (.bool y.h)/\u.cell? ⟨F,9,none⟩=some (int i64 y.x)/\u.cell? ⟨F,10,none⟩=some (int i64 y.y)/\u.cell? ⟨F,11,none⟩=some (int i64 y.D)) rfl kR (QC g.a g.b) (λY=>?_)
   simp only[List.replicate_succ,List.replicate_zero];generalize w2.drew=u at g Y ⊢;refine QD 0 ?_;refine QD 2 ?_;refine QD 3 ?_
   iterate 5
    all_goals
     first
      |(have t:RG _ _ _ _ _ _ _ _ _ none none none none none:=g.out;clear t;refine rj 1 10 11 (λK i=>?_) (λK i=>?_) λK i=>?_)
      |(have t:RG _ _ _ _ _ _ _ _ _ none (some _) none none none:=g.out;clear t;refine eq 1 10 (λK i=>?_) λK i=>?_)
      |(have t:RG _ _ _ _ _ _ _ _ _ (some _) none none none none:=g.out;clear t;refine eq 1 11 (λK i=>?_) λK i=>?_)
      |(have t:RG _ _ _ _ _ _ _ _ _ (some _) (some _) none none none:=g.out;clear t;refine Ay 1 λK i=>?_)
      |(have t:RG _ _ _ _ _ _ _ _ _ none none (some _) none none:=g.out;clear t;refine rj 4 10 11 (λK i=>?_) (λK i=>?_) λK i=>?_)
      |(have t:RG _ _ _ _ _ _ _ _ _ none (some _) (some _) none none:=g.out;clear t;refine eq 4 10 (λK i=>?_) λK i=>?_)
      |(have t:RG _ _ _ _ _ _ _ _ _ (some _) none (some _) none none:=g.out;clear t;refine eq 4 11 (λK i=>?_) λK i=>?_)
      |(have t:RG _ _ _ _ _ _ _ _ _ (some _) (some _) (some _) none none:=g.out;clear t;refine Ay 4 λK i=>?_)
      |(have t:RG _ _ _ _ _ _ _ _ _ none none (some _) (some _) none:=g.out;clear t;refine rj 5 10 11 (λK i=>?_) (λK i=>?_) λK i=>?_)
      |(have t:RG _ _ _ _ _ _ _ _ _ none (some _) (some _) (some _) none:=g.out;clear t;refine eq 5 10 (λK i=>?_) λK i=>?_)
      |(have t:RG _ _ _ _ _ _ _ _ _ (some _) none (some _) (some _) none:=g.out;clear t;refine eq 5 11 (λK i=>?_) λK i=>?_)
      |(have t:RG _ _ _ _ _ _ _ _ _ (some _) (some _) (some _) (some _) none:=g.out;clear t;refine Ay 5 λK i=>?_)
      |(have t:RG _ _ _ _ _ _ _ _ _ none none (some _) (some _) (some _):=g.out;clear t;refine eq 10 11 (λK i=>?_) λK i=>?_)
      |(have t:RG _ _ _ _ _ _ _ _ _ none (some _) (some _) (some _) (some _):=g.out;clear t;refine Ay 10 λK i=>?_)
      |(have t:RG _ _ _ _ _ _ _ _ _ (some _) none (some _) (some _) (some _):=g.out;clear t;refine Ay 11 λK i=>?_)
    all_goals
     go_simp
     first
      |(go_at_call 9;refine Jm (g.off _ HT.out HI.out) ?_;clear g;rintro e u ⟨k1,rfl,g⟩;dsimp only;refine i.out _ _ (QC g.a g.b) (λY=>?_);clear i K;simp only[sZ,sS])
      |(go_at_call 10;refine Jm (g.op _ HU.out HJ.out) ?_;clear g;rintro e u ⟨k2,rfl,g⟩;dsimp only;refine i.out _ _ (QC g.a g.b) (λY=>?_);clear i K;simp only[sZ,sS])
      |(go_at_call 8;refine Jm (g.dop 8 b1 (λc d u _ h1 h2=>k9.out c d u h1 h2)) ?_;clear g;rintro e u ⟨a1,n1,c1,a2,n2,c2,a3,n3,c3,D,name,price,ar,n,cr,ok,rfl,g⟩;dsimp only;refine i.out _ _ (QC g.a g.b) (λY=>?_);clear i K;simp only[sZ,sS];refine QD 6 ?_;refine QD 7 ?_;refine QD 8 ?_;refine QD 9 ?_)
      |(replace g:Hid _:=g.al8;refine i.out _ _ (QC g.a g.b) (λY=>?_);clear i K;simp only[sZ,sS];generalize u.heap.size=b8 at g ⊢;generalize u.alloc (.cells #[.slice none 0 0,.slice none 0 0,.slice none 0 0] 38)=u at g Y ⊢)
      |(replace g:Hid _:=g.al9;refine i.out _ _ (QC g.a g.b) (λY=>?_);clear i K;simp only[sZ,sS];generalize u.heap.size=b9 at g ⊢;generalize u.alloc (.cells #[int i64 0,int i64 0,int i64 0,.slice none 0 0] 41)=u at g Y ⊢)
   all_goals (clear Y;revert g;revert ok;revert cr;revert n;revert ar;revert price;revert name;revert D;revert c3;revert n3;revert a3;revert c2;revert n2;revert a2;revert c1;revert n1;revert a1;revert k2;revert k1;revert b9;revert b8;revert u;exact e9))
  intro u b8 b9 k1 k2 a1 n1 c1 a2 n2 c2 a3 n3 c3 D name price ar n cr ok g;have HF:Hid _:=g.fin;obtain⟨q0,q1,q2⟩:=ZE HF.1.1;obtain⟨f0,f1,f2⟩:=FM HF.1.1;have e4:=HF.1.2;have HA:=HF.2.1;have HC:Hid _:=HF.2.2;unfold zW at e4 HA;unfold Zg zW at HC;clear HF g;refine Ay 12 λK i=>?_
  go_simp;refine i.out _ _ (QC HA.1 HA.2) (λY=>?_)
  clear i K HA q0 q1 q2 f0 f1 f2;simp only[sZ,sS];obtain⟨q0,q1,q2,q3⟩:=Qk e4;obtain⟨f0,f1,f2,f3⟩:=EV e4;clear e4;refine Ay 13 λK i=>?_
  go_simp;refine i.out _ _ (QC HC.1.1 HC.1.2) (λY=>?_)
  clear i K q0 q1 q2 q3 f0 f1 f2 f3;simp only[sZ,sS];refine Ay 14 λK i=>?_
  go_simp;refine i.out _ _ (QC HC.1.1 HC.1.2) (λY=>?_)
  clear i K;simp only[sZ,sS];refine qh kR ?_ _;go_wp2;go_meet;exact⟨b8,b9,ok,rfl,rfl,rfl,HC⟩
 case rest =>
  obtain⟨b8,b9,ok,rfl,rfl,rfl,HC⟩:=hcut;obtain⟨⟨A',B'⟩,⟨rb,z,D,name,price,N,T,f4,a1,c1,a2,c2,a3,c3,ar,cr,L,C,Aa,Bb,Dd,E,W8,W9,l0,l1⟩,f,l8,l9⟩:=HC.out;clear HC A B;have HA:Hid _:=A';have h5:Hid _:=B';have k4:Hid (ja x b1 y m z D name price N T ok):=f4;have k3:Hid (∀ c d u,Below w w u->zY.Is u c x->qD.Is u d y->Calls prog 11 #[.agg c.toArray,int i64 b1,.agg d.toArray] u λe u'=>GQ u.heap.size u.heap.size z D name price N T ok e u'/\Below u u u'):=λc d u q h1 h2=>dw HT.out HU.out HM.out (HG.1.j0 q) ⟨HG.2.1.1.j0 q,HG.2.1.2.j0 q⟩ (HG.2.2.1.j0 q) ((q.cell (p:=⟨0,0,none⟩) (Ja w _ HG.2.2.2)).trans HG.2.2.2) k4.out h1 h2
  have H:Hid ((zY.Short z 1048576/\z.i<=1000/\z.l<=1000/\z.g<=1000)/\N<=1048576):=dx HT.out HU.out f4;have n6:Hid (w.heap.size+1<w2.heap.size/\w2.heap.size<=wc.heap.size/\b8<wc.heap.size/\b9<wc.heap.size):=⟨k6.out,f.size,zD W8,zD W9⟩;have d8:Hid (zY.Is wc [.slice a1 z.i c1,.slice a2 z.l c2,.slice a3 z.g c3] z/\AX wc ar N T):=⟨l0.is,Ch l1⟩;have j5:Hid _:=W8;have j6:Hid _:=W9;have b2:Hid _:=zb HB f;have v:Below wc wc wc:=bZ;clear f l0 l1 f4 k9 HI HJ A' B' W8 W9 HB k6;obtain⟨q0,q1,q2⟩:=ZE (za HA.out v);go_wp2_with fail;refine(El _ x _ HT.out (e5.j0 (zb b2.out v))).mono ?_;rintro e Z ⟨l6,rfl,g6,f⟩;clear q0 q1 q2;replace v:=zb v f;have l3:Hid (wc.heap.size<=Z.heap.size):=f.size;clear f;have g4:Hid (zY.In Z wc.heap.size Z.heap.size l6 x):=g6;obtain⟨m1,m2,b6,l,c,b4,C',b3,E0,rfl,_,_,_,_⟩:=g6;unfold Zw;have X:zY.In Z wc.heap.size Z.heap.size [.slice (some ⟨b6,0,none⟩) x.i x.i,.slice (some ⟨b4,0,none⟩) x.l x.l,.slice (some ⟨b3,0,none⟩) x.g x.g] x:=g4.out;clear g4;have f:Below Z Z (Z.alloc (.cells #[.slice (some ⟨b6,0,none⟩) x.i x.i,.slice (some ⟨b4,0,none⟩) x.l x.l,.slice (some ⟨b3,0,none⟩) x.g x.g] 38)):=zd bZ _;have I:=Qc f;have k7:Hid (Z.heap.size<(Z.alloc (.cells #[.slice (some ⟨b6,0,none⟩) x.i x.i,.slice (some ⟨b4,0,none⟩) x.l x.l,.slice (some ⟨b3,0,none⟩) x.g x.g] 38)).heap.size):=by show Z.heap.size<(Z.alloc (.cells #[.slice (some ⟨b6,0,none⟩) x.i x.i,.slice (some ⟨b4,0,none⟩) x.l x.l,.slice (some ⟨b3,0,none⟩) x.g x.g] 38)).heap.size;simp
  replace v:=zb v f;replace X:=X.j0 f;clear f;obtain⟨q0,q1,q2,q3,q4,q5,q6,q7,q8,q9,f8,f9⟩:=DQ (za h5.out v);go_wp2_with fail;generalize Z.alloc (.cells #[.slice (some ⟨b6,0,none⟩) x.i x.i,.slice (some ⟨b4,0,none⟩) x.l x.l,.slice (some ⟨b3,0,none⟩) x.g x.g] 38)=w5 at v X I k7 q0 q1 q2 q3 q4 q5 q6 q7 q8 q9 f8 f9 ⊢;refine(KG _ y _ HU.out (e7.j0 (zb b2.out v))).mono ?_;rintro e J ⟨l7,rfl,g7,f⟩;clear q0 q1 q2 q3 q4 q5 q6 q7 q8 q9 f8 f9;replace v:=zb v f;replace X:=X.j0 f;replace I:=za I f;have l4:Hid (w5.heap.size<=J.heap.size):=f.size;clear f;have g5:Hid (qD.In J w5.heap.size J.heap.size l7 y):=g7;obtain⟨b5,rfl,_⟩:=g7;unfold Zw;have JN:qD.In J w5.heap.size J.heap.size [int i64 y.d,.string y.j1,int i64 y.k,.slice (some ⟨b5,0,none⟩) y.c y.c,int i64 y.v,int i64 y.f,int i64 y.j,int i64 y.w,.bool y.h,int i64 y.x,int i64 y.y,int i64 y.D] y:=g5.out;clear g5;have f:Below J J (J.alloc (.cells #[int i64 y.d,.string y.j1,int i64 y.k,.slice (some ⟨b5,0,none⟩) y.c y.c,int i64 y.v,int i64 y.f,int i64 y.j,int i64 y.w,.bool y.h,int i64 y.x,int i64 y.y,int i64 y.D] 47)):=zd bZ _;have M:=Qc f;have k8:Hid (J.heap.size<(J.alloc (.cells #[int i64 y.d,.string y.j1,int i64 y.k,.slice (some ⟨b5,0,none⟩) y.c y.c,int i64 y.v,int i64 y.f,int i64 y.j,int i64 y.w,.bool y.h,int i64 y.x,int i64 y.y,int i64 y.D] 47)).heap.size):=by show J.heap.size<(J.alloc (.cells #[int i64 y.d,.string y.j1,int i64 y.k,.slice (some ⟨b5,0,none⟩) y.c y.c,int i64 y.v,int i64 y.f,int i64 y.j,int i64 y.w,.bool y.h,int i64 y.x,int i64 y.y,int i64 y.D] 47)).heap.size;simp
  replace v:=zb v f;replace X:=X.j0 f;replace I:=za I f;replace JN:=JN.j0 f;clear f;obtain⟨q0,q1,q2⟩:=ZE I;go_wp2_with fail;generalize J.alloc (.cells #[int i64 y.d,.string y.j1,int i64 y.k,.slice (some ⟨b5,0,none⟩) y.c y.c,int i64 y.v,int i64 y.f,int i64 y.j,int i64 y.w,.bool y.h,int i64 y.x,int i64 y.y,int i64 y.D] 47)=w7 at v X I JN M k8 q0 q1 q2 ⊢;refine(k3.out _ _ _ (zb b2.out v) (X.is HT.out) (JN.is HU.out)).mono ?_;rintro e w8 ⟨⟨d1,e1,d2,e2,d3,e3,dr,er,L2,C2,A2,B2,D2,E2,rfl,G,P⟩,f⟩;clear q0 q1 q2;replace v:=zb v f;replace X:=X.j0 f;replace I:=za I f;replace JN:=JN.j0 f;replace M:=za M f;have l5:Hid (w7.heap.size<=w8.heap.size):=f.size;clear f;have f:Below w8 w8 ((w8.alloc (.cells #[.slice d1 z.i e1,.slice d2 z.l e2,.slice d3 z.g e3] 38)).alloc (.cells #[int i64 D,int i64 name,int i64 price,.slice dr N er] 41)):=zd (zd bZ _) _;have j:=Cs f;have s:=Dt f;replace v:=zb v f;replace X:=X.j0 f;replace I:=za I f;replace JN:=JN.j0 f;replace M:=za M f;replace G:=G.j0 f;replace P:=zm f P;clear f;have m5:(ok != ok)=false:=sM;obtain⟨S,i1,i2⟩:=ZE j;obtain⟨j0,j1,j2⟩:=ZE (za j5.out v);go_wp2_with fail;generalize ((w8.alloc (.cells #[.slice d1 z.i e1,.slice d2 z.l e2,.slice d3 z.g e3] 38)).alloc (.cells #[int i64 D,int i64 name,int i64 price,.slice dr N er] 41))=w9 at v X I JN M G P j s S i1 i2 j0 j1 j2 ⊢;refine bM (BV _ _ z _ H.1.1 G.is (d8.1.j0 v)) λn8 f=>?_
  clear S i1 i2 j0 j1 j2;replace v:=zb v f;replace X:=X.j0 f;replace I:=za I f;replace JN:=JN.j0 f;replace M:=za M f;replace G:=G.j0 f;replace P:=zm f P;replace j:=za j f;replace s:=za s f;clear f;obtain⟨S,i1,i2,i3⟩:=Qk s;obtain⟨j0,j1,j2,j3⟩:=Qk (za j6.out v);go_wp2_with fail;refine bM (EL D name price dr N er T ar cr _ H.2 (Ch P) (d8.2.j0 v)) λd4 f=>?_
  clear S i1 i2 i3 j0 j1 j2 j3;replace v:=zb v f;replace X:=X.j0 f;replace I:=za I f;replace JN:=JN.j0 f;replace M:=za M f;replace G:=G.j0 f;replace P:=zm f P;replace j:=za j f;replace s:=za s f;clear f;go_upto_region 14 with fail;have KS:Hid (∀ w',Below d4 d4 w'->(w'.cell? ⟨pA,0,none⟩=some (.slice a6 x.i b0)/\w'.cell? ⟨pA,1,none⟩=some (.slice a4 x.l a8)/\w'.cell? ⟨pA,2,none⟩=some (.slice a0 x.g a7)/\w'.cell? ⟨Z.heap.size,0,none⟩=some (.slice (some ⟨b6,0,none⟩) x.i x.i)/\w'.cell? ⟨Z.heap.size,1,none⟩=some (.slice (some ⟨b4,0,none⟩) x.l x.l)/\w'.cell? ⟨Z.heap.size,2,none⟩=some (.slice (some ⟨b3,0,none⟩) x.g x.g))):=λw' h=>by
   have g1:=za (za HA.out v) h;have g2:=za I h;exact⟨bC g1 0,bC g1 1,bC g1 2,bC g2 0,bC g2 1,bC g2 2⟩
  have BW:Hid (∀ w',Below d4 d4 w'->Below w w w'):=λw' h=>zb (zb b2.out v) h
  have e6:Hid (∀ w',Below d4 d4 w'->zY.Is w' [.slice (some ⟨b6,0,none⟩) x.i x.i,.slice (some ⟨b4,0,none⟩) x.l x.l,.slice (some ⟨b3,0,none⟩) x.g x.g] x):=λw' h=>(X.is HT.out).j0 h
  go_region_held3 (λw'=>w'.cell? ⟨pA,0,none⟩=some (.slice a6 x.i b0)/\w'.cell? ⟨pA,1,none⟩=some (.slice a4 x.l a8)/\w'.cell? ⟨pA,2,none⟩=some (.slice a0 x.g a7)/\w'.cell? ⟨Z.heap.size,0,none⟩=some (.slice (some ⟨b6,0,none⟩) x.i x.i)/\w'.cell? ⟨Z.heap.size,1,none⟩=some (.slice (some ⟨b4,0,none⟩) x.l x.l)/\w'.cell? ⟨Z.heap.size,2,none⟩=some (.slice (some ⟨b3,0,none⟩) x.g x.g))
   ((refine KS.out _ ?_;exact(by repeat(first|exact bZ|refine Jh ?_|refine zb ?_ W|refine zb ?_ V))))
   (first|(go_at_call 9;refine Jm (El _ x _ HT.out (e5.j0 (BW.out _ (by repeat(first|exact bZ|refine Jh ?_|refine zb ?_ W|refine zb ?_ V))))) ?_;rintro e wt ⟨j7,rfl,c9,V⟩)|(go_at_call 12;refine Jm (BV [.slice (some ⟨b6,0,none⟩) x.i x.i,.slice (some ⟨b4,0,none⟩) x.l x.l,.slice (some ⟨b3,0,none⟩) x.g x.g] j7 x _ HT.out (e6.out _ (by repeat(first|exact bZ|refine Jh ?_|refine zb ?_ W|refine zb ?_ V))) ((c9.is HT.out).j0 (by repeat(first|exact bZ|refine Jh ?_|refine zb ?_ W|refine zb ?_ V)))) ?_;rintro e c0 ⟨rfl,W⟩))
  have f:Below d4 d4 c0:=(by repeat(first|exact bZ|refine Jh ?_|refine zb ?_ W|refine zb ?_ V))
  clear c9 V W KS BW e6;replace v:=zb v f;replace X:=X.j0 f;replace I:=za I f;replace JN:=JN.j0 f;replace M:=za M f;replace G:=G.j0 f;replace P:=zm f P;replace j:=za j f;replace s:=za s f;clear f;go_upto_region 16 with fail;have KS:Hid (∀ w',Below c0 c0 w'->(w'.cell? ⟨F,0,none⟩=some (int i64 y.d)/\w'.cell? ⟨F,1,none⟩=some (.string y.j1)/\w'.cell? ⟨F,2,none⟩=some (int i64 y.k)/\w'.cell? ⟨F,3,none⟩=some (.slice a5 y.c a9)/\w'.cell? ⟨F,4,none⟩=some (int i64 y.v)/\w'.cell? ⟨F,5,none⟩=some (int i64 y.f)/\w'.cell? ⟨F,6,none⟩=some (int i64 y.j)/\w'.cell? ⟨F,7,none⟩=some (int i64 y.w)/\w'.cell? ⟨F,8,none⟩=some (.bool y.h)/\w'.cell? ⟨F,9,none⟩=some (int i64 y.x)/\w'.cell? ⟨F,10,none⟩=some (int i64 y.y)/\w'.cell? ⟨F,11,none⟩=some (int i64 y.D)/\w'.cell? ⟨J.heap.size,0,none⟩=some (int i64 y.d)/\w'.cell? ⟨J.heap.size,1,none⟩=some (.string y.j1)/\w'.cell? ⟨J.heap.size,2,none⟩=some (int i64 y.k)/\w'.cell? ⟨J.heap.size,3,none⟩=some (.slice (some ⟨b5,0,none⟩) y.c y.c)/\w'.cell? ⟨J.heap.size,4,none⟩=some (int i64 y.v)/\w'.cell? ⟨J.heap.size,5,none⟩=some (int i64 y.f)/\w'.cell? ⟨J.heap.size,6,none⟩=some (int i64 y.j)/\w'.cell? ⟨J.heap.size,7,none⟩=some (int i64 y.w)/\w'.cell? ⟨J.heap.size,8,none⟩=some (.bool y.h)/\w'.cell? ⟨J.heap.size,9,none⟩=some (int i64 y.x)/\w'.cell? ⟨J.heap.size,10,none⟩=some (int i64 y.y)/\w'.cell? ⟨J.heap.size,11,none⟩=some (int i64 y.D))):=λw' h=>by
   have g1:=za (za h5.out v) h;have g2:=za M h;exact⟨bC g1 0,bC g1 1,bC g1 2,bC g1 3,bC g1 4,bC g1 5,bC g1 6,bC g1 7,bC g1 8,bC g1 9,bC g1 10,bC g1 11,bC g2 0,bC g2 1,bC g2 2,bC g2 3,bC g2 4,bC g2 5,bC g2 6,bC g2 7,bC g2 8,bC g2 9,bC g2 10,bC g2 11⟩
  have BW:Hid (∀ w',Below c0 c0 w'->Below w w w'):=λw' h=>zb (zb b2.out v) h
  have e6:Hid (∀ w',Below c0 c0 w'->qD.Is w' [int i64 y.d,.string y.j1,int i64 y.k,.slice (some ⟨b5,0,none⟩) y.c y.c,int i64 y.v,int i64 y.f,int i64 y.j,int i64 y.w,.bool y.h,int i64 y.x,int i64 y.y,int i64 y.D] y):=λw' h=>(JN.is HU.out).j0 h
  go_region_held3 (λw'=>w'.cell? ⟨F,0,none⟩=some (int i64 y.d)/\w'.cell? ⟨F,1,none⟩=some (.string y.j1)/\w'.cell? ⟨F,2,none⟩=some (int i64 y.k)/\w'.cell? ⟨F,3,none⟩=some (.slice a5 y.c a9)/\w'.cell? ⟨F,4,none⟩=some (int i64 y.v)/\w'.cell? ⟨F,5,none⟩=some (int i64 y.f)/\w'.cell? ⟨F,6,none⟩=some (int i64 y.j)/\w'.cell? ⟨F,7,none⟩=some (int i64 y.w)/\w'.cell? ⟨F,8,none⟩=some (.bool y.h)/\w'.cell? ⟨F,9,none⟩=some (int i64 y.x)/\w'.cell? ⟨F,10,none⟩=some (int i64 y.y)/\w'.cell? ⟨F,11,none⟩=some (int i64 y.D)/\w'.cell? ⟨J.heap.size,0,none⟩=some (int i64 y.d)/\w'.cell? ⟨J.heap.size,1,none⟩=some (.string y.j1)/\w'.cell? ⟨J.heap.size,2,none⟩=some (int i64 y.k)/\w'.cell? ⟨J.heap.size,3,none⟩=some (.slice (some ⟨b5,0,none⟩) y.c y.c)/\w'.cell? ⟨J.heap.size,4,none⟩=some (int i64 y.v)/\w'.cell? ⟨J.heap.size,5,none⟩=some (int i64 y.f)/\w'.cell? ⟨J.heap.size,6,none⟩=some (int i64 y.j)/\w'.cell? ⟨J.heap.size,7,none⟩=some (int i64 y.w)/\w'.cell? ⟨J.heap.size,8,none⟩=some (.bool y.h)/\w'.cell? ⟨J.heap.size,9,none⟩=some (int i64 y.x)/\w'.cell? ⟨J.heap.size,10,none⟩=some (int i64 y.y)/\w'.cell? ⟨J.heap.size,11,none⟩=some (int i64 y.D))
   ((refine KS.out _ ?_;exact(by repeat(first|exact bZ|refine Jh ?_|refine zb ?_ W|refine zb ?_ V))))
   (first|(go_at_call 10;refine Jm (KG _ y _ HU.out (e7.j0 (BW.out _ (by repeat(first|exact bZ|refine Jh ?_|refine zb ?_ W|refine zb ?_ V))))) ?_;rintro e wt ⟨j7,rfl,c9,V⟩)|(go_at_call 14;refine Jm (TF [int i64 y.d,.string y.j1,int i64 y.k,.slice (some ⟨b5,0,none⟩) y.c y.c,int i64 y.v,int i64 y.f,int i64 y.j,int i64 y.w,.bool y.h,int i64 y.x,int i64 y.y,int i64 y.D] j7 y _ HU.out (e6.out _ (by repeat(first|exact bZ|refine Jh ?_|refine zb ?_ W|refine zb ?_ V))) ((c9.is HU.out).j0 (by repeat(first|exact bZ|refine Jh ?_|refine zb ?_ W|refine zb ?_ V)))) ?_;rintro e l2 ⟨rfl,W⟩))
  have f:Below c0 c0 l2:=(by repeat(first|exact bZ|refine Jh ?_|refine zb ?_ W|refine zb ?_ V))
  clear c9 V W KS BW e6;replace v:=zb v f;replace X:=X.j0 f;replace I:=za I f;replace JN:=JN.j0 f;replace M:=za M f;replace G:=G.j0 f;replace P:=zm f P;replace j:=za j f;replace s:=za s f;clear f;obtain⟨S,i1,i2⟩:=ZE I;go_wp2_with fail;refine(MM _ x wc.heap.size Z.heap.size l2 HT.out X (by have:=zD I;omega)).mono ?_
  rintro e m8 ⟨⟨k,hk,rfl⟩,kp⟩;clear S i1 i2;have U:Hid (wc.heap.size<=Z.heap.size/\Z.heap.size<w5.heap.size/\w5.heap.size<=J.heap.size/\J.heap.size<w7.heap.size/\w7.heap.size<=w8.heap.size):=⟨l3.out,k7.out,l4.out,k8.out,l5.out⟩;have Q:Hid (∀ b,(wc.heap.size<=b/\b<Z.heap.size)->wc.heap.size<=b/\b<Z.heap.size):=λb h=>h
  replace v:=zl.j0 v v.size kp (λb e=>(Q.out _ e).1)
  replace JN:=JN.kept kp (λb e=>by have:=Q.out _ e;have:=U.out;omega)
  replace M:=kp.blk M (λe=>by have:=Q.out _ e;have:=U.out;omega)
  replace j:=kp.blk j (λe=>by have:=Q.out _ e;have:=U.out;omega)
  replace s:=kp.blk s (λe=>by have:=Q.out _ e;have:=U.out;omega)
  replace G:=G.keep kp (λb q e=>by have:=Q.out _ e;have:=(G.blk b q).1;have:=U.out;omega)
  replace P:=kp.j1 P (λb q e=>by have:=Q.out _ e;have:=(P.lt b q).1;have:=U.out;omega)
  clear kp X I Q;obtain⟨S,i1,i2,i3,i4,i5,i6,i7,i8,i9,m6,m7⟩:=DQ M;go_wp2_with fail;refine bM (OH _ y w5.heap.size J.heap.size k m8 HU.out JN oM) λn9 kp=>?_
  clear S i1 i2 i3 i4 i5 i6 i7 i8 i9 m6 m7;have Q:Hid (∀ b,(w5.heap.size<=b/\b<J.heap.size)->w5.heap.size<=b/\b<J.heap.size):=λb h=>h
  replace v:=zl.j0 v v.size kp (λb e=>by have:=Q.out _ e;have:=U.out;omega)
  replace j:=kp.blk j (λe=>by have:=Q.out _ e;have:=U.out;omega)
  replace s:=kp.blk s (λe=>by have:=Q.out _ e;have:=U.out;omega)
  replace G:=G.keep kp (λb q e=>by have:=Q.out _ e;have:=(G.blk b q).1;have:=U.out;omega)
  replace P:=kp.j1 P (λb q e=>by have:=Q.out _ e;have:=(P.lt b q).1;have:=U.out;omega)
  clear kp JN M Q;have dk:decide ((k:Int)+(y.c:Int)<0)=false:=dF;obtain⟨S,i1,i2⟩:=ZE j;obtain⟨j0,j1,j2⟩:=ZE (za j5.out v);go_wp2_with fail;refine bM (BV _ _ z _ H.1.1 G.is (d8.1.j0 v)) λo0 f=>?_
  clear S i1 i2 j0 j1 j2;replace v:=zb v f;replace G:=G.j0 f;replace P:=zm f P;replace j:=za j f;replace s:=za s f;clear f;obtain⟨S,i1,i2,i3⟩:=Qk s;obtain⟨j0,j1,j2,j3⟩:=Qk (za j6.out v);go_wp2_with fail;refine bM (EL D name price dr N er T ar cr _ H.2 (Ch P) (d8.2.j0 v)) λm9 f=>?_
  clear S i1 i2 i3 j0 j1 j2 j3;replace v:=zb v f;replace G:=G.j0 f;replace P:=zm f P;replace j:=za j f;replace s:=za s f;clear f;obtain⟨S,i1,i2⟩:=ZE j;go_wp2_with fail;have d9:Hid (∀ b,Rp (.slice d1 z.i e1) (.slice d2 z.l e2) (.slice d3 z.g e3) z.i z.l z.g L2 C2 A2 B2 D2 E2 b->wc.heap.size<=b/\b≠w8.heap.size/\b≠w8.heap.size+1/\(Value.slice dr N er).ownBlock≠some b):=λb e=>⟨by have:=(G.blk b e).1;have:=U.out;omega,G.noBox j dC b e,G.noBox s dC b e,G.noRow P dC b e⟩
  refine(Kh z d1 d2 d3 e1 e2 e3 w7.heap.size L2 C2 A2 B2 D2 E2 m9 H.1.2.1 H.1.2.2.1 H.1.2.2.2 H.1.1 G).mono ?_;rintro e n4 ⟨rfl,GM,kp⟩;clear S i1 i2;replace v:=zl.j0 v v.size kp (λb e=>(d9.out b e).1)
  replace j:=kp.blk j (λe=>(d9.out _ e).2.1 rfl)
  replace s:=kp.blk s (λe=>(d9.out _ e).2.2.1 rfl)
  replace P:=kp.j1 P (λb q e=>(d9.out _ e).2.2.2 q)
  clear kp G;have h6:Hid (kO z<=30000000000):=(jg H.1.2.1 H.1.2.2.1 H.1.2.2.2 H.1.1).2.2;obtain⟨S,i1,i2,i3⟩:=Qk s;go_wp2_with fail;have f5:Hid (∀ b,(Value.slice dr N er).ownBlock=some b->wc.heap.size<=b/\b≠w8.heap.size/\b≠w8.heap.size+1):=λb e=>⟨by have:=(P.lt b e).1;have:=U.out;omega,zQ P j dC b e,zQ P s dC b e⟩
  refine(LD D name price dr N er w7.heap.size ((kO z:Nat):Int) T n4 (by have:=H.2;omega) oM (by have:=h6.out;omega) P).mono ?_
  rintro e g0 ⟨rfl,k0,kp⟩;clear S i1 i2 i3;replace v:=zl.j0 v v.size kp (λb e=>(f5.out b e).1)
  replace j:=kp.blk j (λe=>(f5.out _ e).2.1 rfl)
  replace s:=kp.blk s (λe=>(f5.out _ e).2.2 rfl)
  replace GM:=GM.keep kp (λb q e=>(d9.out b q).2.2.2 e)
  have RM:AX g0 dr N (QW (kO z)):=by have:=Ch k0;simpa using this
  clear kp P k0 d9 f5;have m0:decide (((kO z:Nat):Int)<0)=false:=dF;have m3:decide (((kO z:Nat):Int)+5*(N:Int)<0)=false:=dF;have m4:(((kO z:Nat):Int)+5*(N:Int) != ((kO z:Nat):Int)+5*(N:Int))=false:=sM;have R:qy g0 d1 z.i (mO z).G/\ZA g0 d2 z.l (mO z).F/\qL g0 d3 z.g (mO z).u:=⟨GM.G.at,GM.F.at,GM.u.at⟩;clear GM;obtain⟨S,i1,i2⟩:=ZE j;go_wp2_with fail;refine bM (EQ z d1 d2 d3 e1 e2 e3 _ H.1.2.1 H.1.2.2.1 H.1.2.2.2 H.1.1 R) λo1 f=>?_
  clear S i1 i2;replace v:=zb v f;replace R:_/\_/\_:=⟨R.1.j0 f,R.2.1.j0 f,R.2.2.j0 f⟩;replace RM:=RM.j0 f;replace j:=za j f;replace s:=za s f;clear f;obtain⟨S,i1,i2,i3⟩:=Qk s;go_wp2_with fail;refine bM (Fs D name price dr N er (kO z) _ (by have:=H.2;omega) (by have:=h6.out;omega) RM) λO f=>?_
  clear S i1 i2 i3;replace v:=zb v f;replace R:_/\_/\_:=⟨R.1.j0 f,R.2.1.j0 f,R.2.2.j0 f⟩;replace RM:=RM.j0 f;replace j:=za j f;replace s:=za s f;clear f;go_upto_region 35 with fail;have HI:=hI (e5.j0 (zb b2.out v));have HJ:=hI (e7.j0 (zb b2.out v));have g3:Hid (∀ c d u,Below O O u->zY.Is u c x->qD.Is u d y->Calls prog 11 #[.agg c.toArray,int i64 b1,.agg d.toArray] u λe u'=>IT (λ_ a c n p N' T' o=>z=a/\D=c/\name=n/\price=p/\N=N'/\T=T'/\ok=o) u.heap.size e u'/\Below u u u'):=λc d u q h1 h2=>(k3.out c d u (zb (zb b2.out v) q) h1 h2).mono λe u' h=>⟨⟨_,z,D,name,price,N,T,ok,⟨rfl,rfl,rfl,rfl,rfl,rfl,rfl⟩,h.1⟩,h.2⟩
  have HX:Hid (O.heap[w8.heap.size]?=some (.cells #[.slice d1 z.i e1,.slice d2 z.l e2,.slice d3 z.g e3] 38 (0,0))/\O.heap[w8.heap.size+1]?=some (.cells #[int i64 D,int i64 name,int i64 price,.slice dr N er] 41 (0,0))):=⟨j,s⟩;have e8:Hid (qy O d1 z.i (mO z).G/\ZA O d2 z.l (mO z).F/\qL O d3 z.g (mO z).u):=R;have j4:Hid (AX O dr N (QW (kO z))):=RM;have h4:Hid (Below wc wc O):=v;have hA:=(za HA.out v);have j8:=(za h5.out v);clear j s R RM v;go_cut [19,20,21] (λs8 s9 j9 wx=>∃ g8 g9 d7,s8=.pointer (some ⟨g8,0,none⟩)/\s9=.pointer (some ⟨g9,0,none⟩)/\j9=.bool d7/\Hid ((wx.heap[pA]?=some (.cells #[.slice a6 x.i b0,.slice a4 x.l a8,.slice a0 x.g a7] 26 (0,0))/\wx.heap[F]?=some (.cells #[int i64 y.d,.string y.j1,int i64 y.k,.slice a5 y.c a9,int i64 y.v,int i64 y.f,int i64 y.j,int i64 y.w,.bool y.h,int i64 y.x,int i64 y.y,int i64 y.D] 31 (0,0)))/\nf (λ_ a c n p N' T' o=>z=a/\D=c/\name=n/\price=p/\N=N'/\T=T'/\ok=o) O.heap.size g8 g9 d7 wx/\Below O O wx/\O.heap.size<=g8/\O.heap.size<=g9))
  case first =>
   have h7:Hid (RG O O.drew pA F #[.slice a6 x.i b0,.slice a4 x.l a8,.slice a0 x.g a7] #[int i64 y.d,.string y.j1,int i64 y.k,.slice a5 y.c a9,int i64 y.v,int i64 y.f,int i64 y.j,int i64 y.w,.bool y.h,int i64 y.x,int i64 y.y,int i64 y.D] x y (λ_ a c n p N' T' o=>z=a/\D=c/\name=n/\price=p/\N=N'/\T=T'/\ok=o) none none none none none):=⟨bZ.drew,za hA bZ.drew,za j8 bZ.drew,λ_ e=>(by cases e),λ_ e=>(by cases e),λ_ e=>(by cases e),λ_ e=>(by cases e),λ_ e=>(by cases e)⟩
   clear hA j8 HX e8 j4 h4 dk m0 m3 m4 m5 d0;refine pk ?_ (by
    intro e9;have g:=h7;refine qt 15 15 (λu=>u.cell? ⟨pA,0,none⟩=some (.slice a6 x.i b0)/\u.cell? ⟨pA,1,none⟩=some (.slice a4 x.l a8)/\u.cell? ⟨pA,2,none⟩=some (.slice a0 x.g a7)/\u.cell? ⟨F,0,none⟩=some (int i64 y.d)/\u.cell? ⟨F,1,none⟩=some (.string y.j1)/\u.cell? ⟨F,2,none⟩=some (int i64 y.k)/\u.cell? ⟨F,3,none⟩=some (.slice a5 y.c a9)/\u.cell? ⟨F,4,none⟩=some (int i64 y.v)/\u.cell? ⟨F,5,none⟩=some (int i64 y.f)/\u.cell? ⟨F,6,none⟩=some (int i64 y.j)/\u.cell? ⟨F,7,none⟩=some (int i64 y.w)/\u.cell? ⟨F,8,none⟩=some (.bool y.h)/\u.cell? ⟨F,9,none⟩=some (int i64 y.x)/\u.cell? ⟨F,10,none⟩=some (int i64 y.y)/\u.cell? ⟨F,11,none⟩=some (int i64 y.D)) rfl kR (QC g.a g.b) (λY=>?_)
    simp only[List.replicate_succ,List.replicate_zero];generalize O.drew=u at g Y ⊢;refine QD 0 ?_;refine QD 2 ?_;refine QD 3 ?_
    iterate 5
     all_goals
      first
       |(have t:RG _ _ _ _ _ _ _ _ _ none none none none none:=g.out;clear t;refine rj 1 10 11 (λK i=>?_) (λK i=>?_) λK i=>?_)
       |(have t:RG _ _ _ _ _ _ _ _ _ none (some _) none none none:=g.out;clear t;refine eq 1 10 (λK i=>?_) λK i=>?_)
       |(have t:RG _ _ _ _ _ _ _ _ _ (some _) none none none none:=g.out;clear t;refine eq 1 11 (λK i=>?_) λK i=>?_)
       |(have t:RG _ _ _ _ _ _ _ _ _ (some _) (some _) none none none:=g.out;clear t;refine Ay 1 λK i=>?_)
       |(have t:RG _ _ _ _ _ _ _ _ _ none none (some _) none none:=g.out;clear t;refine rj 4 10 11 (λK i=>?_) (λK i=>?_) λK i=>?_)
       |(have t:RG _ _ _ _ _ _ _ _ _ none (some _) (some _) none none:=g.out;clear t;refine eq 4 10 (λK i=>?_) λK i=>?_)
       |(have t:RG _ _ _ _ _ _ _ _ _ (some _) none (some _) none none:=g.out;clear t;refine eq 4 11 (λK i=>?_) λK i=>?_)
       |(have t:RG _ _ _ _ _ _ _ _ _ (some _) (some _) (some _) none none:=g.out;clear t;refine Ay 4 λK i=>?_)
       |(have t:RG _ _ _ _ _ _ _ _ _ none none (some _) (some _) none:=g.out;clear t;refine rj 5 10 11 (λK i=>?_) (λK i=>?_) λK i=>?_)
       |(have t:RG _ _ _ _ _ _ _ _ _ none (some _) (some _) (some _) none:=g.out;clear t;refine eq 5 10 (λK i=>?_) λK i=>?_)
       |(have t:RG _ _ _ _ _ _ _ _ _ (some _) none (some _) (some _) none:=g.out;clear t;refine eq 5 11 (λK i=>?_) λK i=>?_)
       |(have t:RG _ _ _ _ _ _ _ _ _ (some _) (some _) (some _) (some _) none:=g.out;clear t;refine Ay 5 λK i=>?_)
       |(have t:RG _ _ _ _ _ _ _ _ _ none none (some _) (some _) (some _):=g.out;clear t;refine eq 10 11 (λK i=>?_) λK i=>?_)
       |(have t:RG _ _ _ _ _ _ _ _ _ none (some _) (some _) (some _) (some _):=g.out;clear t;refine Ay 10 λK i=>?_)
       |(have t:RG _ _ _ _ _ _ _ _ _ (some _) none (some _) (some _) (some _):=g.out;clear t;refine Ay 11 λK i=>?_)
     all_goals
      go_simp
      first
       |(go_at_call 9;refine Jm (g.off _ HT.out HI.out) ?_;clear g;rintro e u ⟨k1,rfl,g⟩;dsimp only;refine i.out _ _ (QC g.a g.b) (λY=>?_);clear i K;simp only[sZ,sS])
       |(go_at_call 10;refine Jm (g.op _ HU.out HJ.out) ?_;clear g;rintro e u ⟨k2,rfl,g⟩;dsimp only;refine i.out _ _ (QC g.a g.b) (λY=>?_);clear i K;simp only[sZ,sS])
       |(go_at_call 11;refine Jm (g.dop 11 b1 (λc d u q h1 h2=>g3.out c d u q h1 h2)) ?_;clear g;rintro e u ⟨f1,n1,h1,f2,n2,h2,f3,n3,h3,d5,d6,b7,fr,n,hr,d7,rfl,g⟩;dsimp only;refine i.out _ _ (QC g.a g.b) (λY=>?_);clear i K;simp only[sZ,sS];refine QD 6 ?_;refine QD 7 ?_;refine QD 8 ?_;refine QD 9 ?_)
       |(replace g:Hid _:=g.al8;refine i.out _ _ (QC g.a g.b) (λY=>?_);clear i K;simp only[sZ,sS];generalize u.heap.size=b8 at g ⊢;generalize u.alloc (.cells #[.slice none 0 0,.slice none 0 0,.slice none 0 0] 38)=u at g Y ⊢)
       |(replace g:Hid _:=g.al9;refine i.out _ _ (QC g.a g.b) (λY=>?_);clear i K;simp only[sZ,sS];generalize u.heap.size=b9 at g ⊢;generalize u.alloc (.cells #[int i64 0,int i64 0,int i64 0,.slice none 0 0] 41)=u at g Y ⊢)
    all_goals (clear Y;revert g;revert d7;revert hr;revert n;revert fr;revert b7;revert d6;revert d5;revert h3;revert n3;revert f3;revert h2;revert n2;revert f2;revert h1;revert n1;revert f1;revert k2;revert k1;revert b9;revert b8;revert u;exact e9))
   intro u b8 b9 k1 k2 f1 n1 h1 f2 n2 h2 f3 n3 h3 d5 d6 b7 fr n hr d7 g;have HF:Hid _:=g.fin;obtain⟨q0,q1,q2⟩:=ZE HF.1.1;obtain⟨f0,f1,f2⟩:=FM HF.1.1;have e4:=HF.1.2;have HA:=HF.2.1;have HC:Hid _:=HF.2.2;unfold zW at e4 HA;unfold Zg zW at HC;clear HF g;refine Ay 12 λK i=>?_
   go_simp;refine i.out _ _ (QC HA.1 HA.2) (λY=>?_)
   clear i K HA q0 q1 q2 f0 f1 f2;simp only[sZ,sS];obtain⟨q0,q1,q2,q3⟩:=Qk e4;obtain⟨f0,f1,f2,f3⟩:=EV e4;clear e4;refine Ay 13 λK i=>?_
   go_simp;refine i.out _ _ (QC HC.1.1 HC.1.2) (λY=>?_)
   clear i K q0 q1 q2 q3 f0 f1 f2 f3;simp only[sZ,sS];refine Ay 14 λK i=>?_
   go_simp;refine i.out _ _ (QC HC.1.1 HC.1.2) (λY=>?_)
   clear i K;simp only[sZ,sS];refine qh kR ?_ _;go_wp2;go_meet;exact⟨b8,b9,d7,rfl,rfl,rfl,HC⟩
  case rest =>
  obtain⟨g8,g9,d7,rfl,rfl,rfl,HC⟩:=hcut;obtain⟨_,⟨n7,o6,d5,d6,b7,N',T',⟨rfl,rfl,rfl,rfl,rfl,rfl,rfl⟩,f1,h1,f2,h2,f3,h3,fr,hr,L3,C3,A3,n5,D3,E3,V8,V9,ho,e0⟩,f,_,_⟩:=HC.out;have v:=zb h4.out f;have j:=za HX.1 f;have s:=za HX.2 f;have R:_/\_/\_:=⟨e8.1.j0 f,e8.2.1.j0 f,e8.2.2.j0 f⟩;have RM:=j4.j0 f;clear HC f HX e8 j4 h4 hA j8 HI HJ g3;obtain⟨S,i1,i2⟩:=ZE V8;obtain⟨j0,j1,j2⟩:=ZE (za j5.out v);go_wp2_with fail;refine bM (BV _ _ z _ H.1.1 ho.is (d8.1.j0 v)) λo2 f=>?_
  clear S i1 i2 j0 j1 j2;replace v:=zb v f;replace R:_/\_/\_:=⟨R.1.j0 f,R.2.1.j0 f,R.2.2.j0 f⟩;replace RM:=RM.j0 f;replace j:=za j f;replace s:=za s f;replace ho:=ho.j0 f;replace e0:=zm f e0;replace V8:=za V8 f;replace V9:=za V9 f;clear f;obtain⟨S,i1,i2,i3⟩:=Qk V9;obtain⟨j0,j1,j2,j3⟩:=Qk (za j6.out v);go_wp2_with fail;refine bM (EL D name price fr N hr T ar cr _ H.2 (Ch e0) (d8.2.j0 v)) λo3 f=>?_
  clear S i1 i2 i3 j0 j1 j2 j3;replace v:=zb v f;replace R:_/\_/\_:=⟨R.1.j0 f,R.2.1.j0 f,R.2.2.j0 f⟩;replace RM:=RM.j0 f;replace j:=za j f;replace s:=za s f;replace ho:=ho.j0 f;replace e0:=zm f e0;replace V8:=za V8 f;replace V9:=za V9 f;clear f;clear V8 V9 ho e0;obtain⟨S,i1,i2⟩:=ZE j;go_wp2_with fail;refine bM (EQ z d1 d2 d3 e1 e2 e3 _ H.1.2.1 H.1.2.2.1 H.1.2.2.2 H.1.1 R) λo4 f=>?_
  clear S i1 i2;replace v:=zb v f;replace R:_/\_/\_:=⟨R.1.j0 f,R.2.1.j0 f,R.2.2.j0 f⟩;replace RM:=RM.j0 f;replace j:=za j f;replace s:=za s f;clear f;obtain⟨S,i1,i2,i3⟩:=Qk s;go_wp2_with fail;refine bM (Fs D name price dr N er (kO z) _ (by have:=H.2;omega) (by have:=h6.out;omega) RM) λo5 f=>?_
  clear S i1 i2 i3;replace v:=zb v f;replace R:_/\_/\_:=⟨R.1.j0 f,R.2.1.j0 f,R.2.2.j0 f⟩;replace RM:=RM.j0 f;replace j:=za j f;replace s:=za s f;clear f;go_wp2;go_ret;exact⟨rfl,zb b2.out v⟩
section
open Go.ChangeShapes Go.WideShapes Go.ChangeAt Go.RowKit
theorem ed {W:World}(h:laidMetH prog Rows.fnExactDoOpRow.laid W):∃ pe,Ze W/\(Zn W/\Zp W)/\qI W pe/\W.cell? (0,0)=some (.iface 284 (.agg #[.pointer (some (12,92))])):=by
 have a:laidMet _ lVars W/\handlesMet _ [_] W:=h;obtain⟨pe,h1,h2,h3⟩:=jp a.1;exact⟨pe,h1,h2,h3,handle_at a.2⟩
theorem jq (cs:List Value)(x:zY)(a:Int)(os:List Value)(y:qD)(w:World)(f:zY.Short x 1000000000000000)(c:zY.Is w cs x)(hr:qD.Short y 1000000000000000)(d:qD.Is w os y)
  (h:∃ pe,Ze w/\(Zn w/\Zp w)/\qI w pe/\w.cell? (0,0)=some (.iface 284 (.agg #[.pointer (some (12,92))]))) :
  Calls prog 3 #[.agg cs.toArray,a,.agg os.toArray] w λe w'=>e=.returned (.bool true)/\Below w w w':=by
 obtain⟨pe,h1,h2,h3,b⟩:=h;exact lm cs os x y a pe w f c hr d h1 h2 h3 b
theorem Rt {H:Type}{b:TypeId × Value->H}{P:Program}{w:World}{a:Nat->Bool}:∀ {d:List String}{c:List (DataW H)}{f:List MemPlace},DataW.TrodVars b P w a d c f->c.length=d.length
 |[],[],_,_=>rfl
 |[],_ :: _,_,h=>by simp[DataW.TrodVars] at h
 |_ :: _,[],_,h=>by simp[DataW.TrodVars] at h
 |_ :: _,_ :: _,_,h=>by
  obtain⟨_,_,_,_,_,_,_,_,_,_,e,_⟩:=h;simp[Rt e]
end
end Go.Proofs.YtmdnjgihooflfaaGreatDoor
