/-
  OWN TEXT: CloneP, CopyS, CopyOf, ConcatW, WorksI, BehindI, SpecFd.
-/
import Derived.Deep.LoopGhost
import Derived.Lib.SliceRun
import Derived.Test.YtmdnjgihooflfaaGreatDoorKitCo
import Derived.Deep.RegionWith
import Derived.Deep.RegionHeld3
import Derived.Deep.DeepCutAuto
import Derived.Lib.AppendZeros
import Derived.Deep.CutBlock
import Derived.Test.YtmdnjgihooflfaaGreatDoorB25
namespace Go.Proofs.YtmdnjgihooflfaaGreatDoor
open Go.RowKit
open Go.Value (int)
open Go.IntKind (i64)
open Tryz
set_option maxHeartbeats 64000000
set_option maxRecDepth 100000
theorem Tryz.infoLane':(Tryz.prog.info? 223).map (λi=>(i.zero,i.size,i.bytes))=some (some (.agg #[(),()]),2,16):=by kernel_rfl
theorem cloneLane (g:Option Addr)(c:Nat)(p:zH)(w:World)(y:p.n<=1048576)(l:zG w g p)(b:g=none->p.n=0/\c=0) :
  Calls prog 207 #[(g,p.n,c)] w λe w'=>(∃ v,e=.returned v/\w'.ownsRow w.heap.size 223 2 v p.n (qd p))/\Below w.heap.size w w':=by
 have qT:∀ (w) (a) (n c s c'),(binOp _ 137 (.slice a n c) _).run _ w=_:=λw a n c s c'=>Lib.run_eql_slice_nil w _ _ a n c s c' underlying137
 cases g with
 | none =>
  obtain⟨i,rfl⟩:=b rfl;have u:=hI i;rw[i];clear i b l y;go_enter func207,ntmps207;go_wp2;go_ret;refine⟨⟨_,rfl,?_⟩,bZ⟩;have:qd p=[]:=by unfold qd;rw[u.out];rfl
  rw[this];exact World.ownsRow_nil _ _ _ _
 | some ad =>
  obtain⟨z,A,m,o,q⟩:=info_parts Tryz.infoLane';have d:Below _ w (w.alloc (.cells #[] 223)):=zk bZ _;have r:(w.alloc _).ownsRow _ 223 2 _ 0 []:=⟨rfl,.inr ⟨_,0,#[],rfl,Jr _,Jb w _,Jr _,Jq _,rfl,rfl⟩⟩;have t:=hI (zcI (l.below d));clear b l;go_enter func207,ntmps207;go_wp2_with (first|(at_builtin;refine zv _ rfl _ _ 137 rfl _ 223 z _ 2 16 underlying137 A m o q rfl (by decide) _ 0 [] (by rfl) r _ p.n c _ rfl (λh=>(by cases h)) (zaT p) t (zcH _) (by unfold maxLen;omega) (by omega) (by simp) ?_;intro v' w3 f k))
  go_ret;rw[Nat.zero_add,List.nil_append] at f;exact⟨⟨_,rfl,f⟩,d.grown k (by simp) (λj x=>(r.lt j x).1)⟩
theorem Tryz.infoCabin':(Tryz.prog.info? 231).map (λi=>(i.zero,i.size,i.bytes))=some (some (.agg #[(),()]),2,16):=by kernel_rfl
theorem znS (g:Option Addr)(c:Nat)(p:zH)(w:World)(y:p.n<=1048576)(l:zG w g p)(b:g=none->p.n=0/\c=0) :
  Calls prog 208 #[(g,p.n,c)] w λe w'=>(∃ v,e=.returned v/\w'.ownsRow w.heap.size 231 2 v p.n (qd p))/\Below w.heap.size w w':=by
 have qT:∀ (w) (a) (n c s c'),(binOp _ 138 (.slice a n c) _).run _ w=_:=λw a n c s c'=>Lib.run_eql_slice_nil w _ _ a n c s c' underlying138
 cases g with
 | none =>
  obtain⟨i,rfl⟩:=b rfl;have u:=hI i;rw[i];clear i b l y;go_enter func208,ntmps208;go_wp2;go_ret;refine⟨⟨_,rfl,?_⟩,bZ⟩;have:qd p=[]:=by unfold qd;rw[u.out];rfl
  rw[this];exact World.ownsRow_nil _ _ _ _
 | some ad =>
  obtain⟨z,A,m,o,q⟩:=info_parts Tryz.infoCabin';have d:Below _ w (w.alloc (.cells #[] 231)):=zk bZ _;have r:(w.alloc _).ownsRow _ 231 2 _ 0 []:=⟨rfl,.inr ⟨_,0,#[],rfl,Jr _,Jb w _,Jr _,Jq _,rfl,rfl⟩⟩;have t:=hI (zcI (l.below d));clear b l;go_enter func208,ntmps208;go_wp2_with (first|(at_builtin;refine zv _ rfl _ _ 138 rfl _ 231 z _ 2 16 underlying138 A m o q rfl (by decide) _ 0 [] (by rfl) r _ p.n c _ rfl (λh=>(by cases h)) (zaT p) t (zcH _) (by unfold maxLen;omega) (by omega) (by simp) ?_;intro v' w3 f k))
  go_ret;rw[Nat.zero_add,List.nil_append] at f;exact⟨⟨_,rfl,f⟩,d.grown k (by simp) (λj x=>(r.lt j x).1)⟩
section
open Go.RowKit
variable{w:World}{g base e N:Nat}{L C:Nat->Value}
theorem box_5 {t:Nat}{u0 u1 u2 u3 u4 u5 u6 u7:Value}(h:w.heap[g]?=some (.cells #[u0,u1,u2,u3,u4,u5,u6,u7] t (0,0)))(v:Value):(w.setCell (g,5) v).heap[g]?=some (.cells #[u0,u1,u2,u3,u4,v,u6,u7] t (0,0)):=by simpa using zm h 5 v
theorem box_6 {t:Nat}{u0 u1 u2 u3 u4 u5 u6 u7:Value}(h:w.heap[g]?=some (.cells #[u0,u1,u2,u3,u4,u5,u6,u7] t (0,0)))(v:Value):(w.setCell (g,6) v).heap[g]?=some (.cells #[u0,u1,u2,u3,u4,u5,v,u7] t (0,0)):=by simpa using zm h 6 v
theorem zdY {size n o:Nat}{v v0 v1 v2 v3 v4 v5 v6 v7:Value}{b:List Value}(h:w.ownsRow base e size v n b)(a:g<base):(zjz w g o v0 v1 v2 v3 v4 v5 v6 v7).ownsRow base e size v n b:=by
 unfold zjz;exact ZW (ZW (ZW (ZW (ZW (ZW (ZW (ZW h a _) a _) a _) a _) a _) a _) a _) a _
theorem zhk (s:Zj)(la ca:Option Addr)(r n:Nat)(w:World)(h1:s.la.n<=1048576)(h2:s.ca.n<=1048576)(C:zG w la s.la)(B:zG w ca s.ca)(E:qj la s.la.n r)(D:qj ca s.ca.n n) :
  Calls prog 113 #[.agg (s,la,r,ca,n)] w λe w' =>
   (∃ t o,e=.returned (.agg #[s.id,s.fr,s.dst,s.dep,s.arr,t,o,s.most])/\w'.ownsRow w.heap.size 223 2 t s.la.n (qd s.la)/\w'.ownsRow w.heap.size 231 2 o s.ca.n (qd s.ca))/\Below w.heap.size w w':=by
 have z:Hid (_/\_):=⟨C,E⟩;have y:Hid (_/\_):=⟨B,D⟩;clear C B E D;have d:Below _ w ((w.alloc (.cells (s,la,r,ca,n) 140)).alloc (.cells #[(),False,False,(),(),True,True,()] 140)):=zk (zk bZ _) _;have m:((w.alloc _).alloc (.cells #[(),False,False,(),(),True,True,()] 140)).heap[w.heap.size]?=some (.cells (s,la,r,ca,n) 140 (0,0)):=zd (Jb w _) _;have I:((w.alloc (.cells (s,la,r,ca,n) 140)).alloc (.cells #[(),False,False,(),(),True,True,()] 140)).heap[w.heap.size+1]?=some (.cells #[(),False,False,(),(),True,True,()] 140 (0,0)):=by simpa using Jb (w.alloc _) _
 go_enter func113,ntmps113;go_upto_region 1 with fail;generalize (w.alloc _).alloc _=X at d m I ⊢;have L:Hid (∀ w',Below _ X w'->_):=λw' h=>zb m h
 have x:Hid (∀ w',_->Calls _ 207 _ w' λe w2=>(∃ a c,_/\_)/\_):=λw' h=>(cloneLane la r _ w' h1 (z.1.below (ze d h)) z.2.2.2).mono λ_ _ ⟨⟨v,e,ho⟩,hb⟩=>by
  obtain⟨a,c,rfl,_⟩:=zp ho;exact⟨⟨a,c,e,zu ho h.size⟩,hb⟩
 have i:Hid (∀ w',_->Calls _ 208 _ w' λe w2=>(∃ a c,_/\_)/\_):=λw' h=>(znS ca n _ w' h2 (y.1.below (ze d h)) y.2.2.2).mono λ_ _ ⟨⟨v,e,ho⟩,hb⟩=>by
  obtain⟨a,c,rfl,_⟩:=zp ho;exact⟨⟨a,c,e,zu ho h.size⟩,hb⟩
 have s5:=za m 5 _ rfl;have s6:=za m 6 _ rfl;have T:=zM m;have j:=T;go_cut [1] (λp J=>p=.pointer (some (w.heap.size,0))/\∃ t o,J.heap[w.heap.size]?=some (.cells #[s.id,s.fr,s.dst,s.dep,s.arr,t,o,s.most] 140 (0,0))/\J.ownsRow X.heap.size 223 2 t s.la.n (qd s.la)/\J.ownsRow X.heap.size 231 2 o s.ca.n (qd s.ca)/\zx X J (λb=>b=w.heap.size))
 case first =>
  go_region_with (first
   | (go_at_call 207;refine Jm (x _ (by repeat(first | exact bZ | refine Jh ?_ | refine ze ?_ g | refine ze ?_ f))) ?_;rintro e w4 ⟨⟨G,c4,rfl,U⟩,g⟩;have u:=L w4 (by repeat(first | exact bZ | refine Jh ?_ | refine ze ?_ g | refine ze ?_ f));have o5:=za u 5 _ rfl;have o6:=za u 6 _ rfl;have f5:=zg u 5;have f6:=zg u 6)
   | (go_at_call 208;refine Jm (i _ (by repeat(first | exact bZ | refine Jh ?_ | refine ze ?_ g | refine ze ?_ f))) ?_;rintro e w5 ⟨⟨H,c5,rfl,V⟩,f⟩;have l:=L w5 (by repeat(first | exact bZ | refine Jh ?_ | refine ze ?_ g | refine ze ?_ f));have p5:=za l 5 _ rfl;have p6:=za l 6 _ rfl;have g5:=zg l 5;have g6:=zg l 6))
  all_goals
   go_wp2;go_meet;exact⟨rfl,_,_,box_6 (box_5 l _) _,ZW (ZW (zo (by repeat(first|exact bZ|refine Jh ?_|refine ze ?_ f)) U) j _) j _,ZW (ZW V j _) j _,
    ((zx.of_below (S:=λb=>b=w.heap.size) (by repeat(first|exact bZ|refine Jh ?_|refine ze ?_ g|refine ze ?_ f))).set rfl _).set rfl _⟩
 case rest =>
  obtain⟨rfl,t,o,M,R,P,Q⟩:=hcut;obtain⟨G,c4,rfl,_⟩:=zp R;obtain⟨H,c5,rfl,_⟩:=zp P;have k:=Q.blk I (by show _;omega)
  have O:=zx.below d d.size Q (λb e=>by have e:=e;omega)
  have W:=zM I;have Z:=hI R;have Y:=hI P;clear R P Q L x i s5 s6 m I;obtain⟨y0,y1,y2,y3,y4,y5,y6,y7⟩:=ce8 M;obtain⟨r0,r1,r2,r3,r4,r5,r6,r7⟩:=ce8 k;obtain⟨f0,f1,f2,f3,f4,f5,f6,f7⟩:=fe8 k;go_wp2;obtain⟨F,q⟩:∃ F,F=zjz wc (w.heap.size+1) 0 s.id s.fr s.dst s.dep s.arr (G,s.la.n,c4) (H,s.ca.n,c5) s.most:=⟨_,rfl⟩;have rF:F.heap[w.heap.size+1]?=some (.cells (s,G,c4,H,c5) 140 (0,0)):=by rw[q];exact zmy k
  have K:F.ownsRow w.heap.size 223 2 (G,s.la.n,c4) s.la.n (qd s.la):=by rw[q];exact zu (zdY Z W) d.size
  have i:F.ownsRow w.heap.size 231 2 (H,s.ca.n,c5) s.ca.n (qd s.ca):=by rw[q];exact zu (zdY Y W) d.size
  have N:Below w.heap.size w F:=by rw[q];exact zfa O (by omega)
  have A:F=((((((((wc.setCell _ _).setCell ⟨_,1,_⟩ _).setCell ⟨_,2,_⟩ _).setCell ⟨_,3,_⟩ _).setCell ⟨_,4,_⟩ _).setCell ⟨_,5,_⟩ _).setCell ⟨_,6,_⟩ _).setCell ⟨_,7,_⟩ _):=q;rw[← A];clear q A;obtain⟨z0,z1,z2,z3,u,l,z6,z7⟩:=ce8 rF;exact Jj (by simp[results,results113,go_sem,z0,z1,z2,z3,u,l,z6,z7]) rfl ⟨⟨_,_,rfl,K,i⟩,N⟩
structure zeP (w:World)(base g k N:Nat)(S:Nat->Zj)(L C:Nat->Value):Prop where
 row:w.rowIs g 140 (N*8) (qz (zbJ k S Zj.zero) (zbJ k L True) (zbJ k C True))
 gb:base<=g
 la:∀ i,i<k->w.ownsRow (g+1) 223 2 (L i) (S i).la.n (qd (S i).la)
 ca:∀ i,i<k->w.ownsRow (g+1) 231 2 (C i) (S i).ca.n (qd (S i).ca)
 apart:∀ i j,i<j->j<k->(∀ b,(L i).ownBlock=some b->(L j).ownBlock≠some b)/\(∀ b,(C i).ownBlock=some b->(C j).ownBlock≠some b)
theorem zeP.below {w':World}{k:Nat}{S:Nat->Zj}(h:zeP w base g k N S L C)(a:Below w.heap.size w w'):zeP w' base g k N S L C :=
 ⟨qo h.row a,h.gb,λi b=>zo a (h.la i b),λi b=>zo a (h.ca i b),h.apart⟩
theorem zeP.own {S:Nat->Zj}(h:zeP w base g N N S L C)(c:N<=maxLen):qM w base (some (g,0),N,N) N S L C:=by
 refine⟨?_,λi b=>zu (h.la i b) (Nat.le_succ_of_le h.gb),λi b=>zu (h.ca i b) (Nat.le_succ_of_le h.gb),h.apart⟩
 refine qR (Zz h.row h.gb c) (λj hj=>?_)
 have a:j / 8<N:=by omega
 unfold qz;rw[qr _ _ a,qr _ _ a,qr _ _ a]
theorem zeP.step {o:World}{k:Nat}{S:Nat->Zj}{n m:Value}(h:zeP w base g k N S L C)(r:Below w.heap.size w o)(hk:k<N)
  (q:o.ownsRow w.heap.size 223 2 n (S k).la.n (qd (S k).la)) (p:o.ownsRow w.heap.size 231 2 m (S k).ca.n (qd (S k).ca)) :
  zeP (zjz o g (k*8) (S k).id (S k).fr (S k).dst (S k).dep (S k).arr n m (S k).most) base g (k+1) N S (atV L k n) (atV C k m):=by
 have hg:=h.row.lt;have h2:=h.below r;refine⟨?_,h.gb,λi f=>?_,λi f=>?_,λi j d hj=>?_⟩
 ·have l:=zmz (k:=k) (S':=zbJ (k+1) S Zj.zero) (ls':=zbJ (k+1) (atV L k n) True) (cs':=zbJ (k+1) (atV C k m) True) h2.row (λi f=>?_) (λi f=>?_) (λi f=>?_)
  ·rw[qr _ _ (by omega),qr _ _ (by omega),qr _ _ (by omega),qu,qu] at l
   exact l
  all_goals
   unfold zbJ
   by_cases c:i<k
   ·rw[Jf c,Jf (by omega)]
    try rw[qf _ _ _ _ f]
   ·rw[Je c,Je (by omega)]
 ·by_cases e:i=k
  ·subst e;rw[qu];exact zdY (zu q (by omega)) (by omega)
  ·rw[qf _ _ _ _ e];exact zdY (h2.la i (by omega)) (by omega)
 ·by_cases e:i=k
  ·subst e;rw[qu];exact zdY (zu p (by omega)) (by omega)
  ·rw[qf _ _ _ _ e];exact zdY (h2.ca i (by omega)) (by omega)
 ·by_cases e:j=k
  ·subst e
   rw[qu,qu,qf _ _ _ _ (by omega),qf _ _ _ _ (by omega)]
   refine⟨λb h1 h3=>?_,λb h1 h3=>?_⟩
   ·have a:=((h.la i d).lt b h1).2
    have c:=(q.lt b h3).1
    omega
   ·have a:=((h.ca i d).lt b h1).2
    have c:=(p.lt b h3).1
    omega
  ·rw[qf _ _ _ _ e,qf _ _ _ _ e,qf _ _ _ _ (by omega),qf _ _ _ _ (by omega)]
   exact h.apart i j d (by omega)
theorem zkT (O:Option Addr)(N c:Nat)(S:Nat->Zj)(w:World)(hN:N<=1048576)(X:QL N S 1048576)(Y:qB w O N S) :
  Calls prog 112 #[.slice O N c,.func (.func 113) #[] #[]] w λe w'=>(∃ g L C,e=.returned (.slice (some ⟨g,0,none⟩) N N)/\qM w' w.heap.size (.slice (some ⟨g,0,none⟩) N N) N S L C)/\Below w.heap.size w w':=by
 obtain⟨i0,H,J,K,M⟩:=info_parts Tryz.infoSailing;have HS:=hI X;have HZ:=hI Y;clear X Y;go_enter func112,ntmps112;go_wp2_with (first|(at_make;refine wpList_make_full _ rfl _ _ 34 rfl _ 140 i0 _ 8 underlying34 H J K _ _ _ _ N rfl rfl rfl rfl (by rw[M];omega) (by unfold maxLen;omega) (Jr _) ?_;intro w1 l f))
 go_loopw [6,7,13] (λ_ _ i wr=>∃ (k:Nat) (L C:_),k<=N/\i=int i64 k/\zeP wr w.heap.size w.heap.size k N S L C/\Below w.heap.size w wr) (λ_ _ i _=>N - (intOf i).toNat)
 case atStart=>exact⟨0,λ_=>.slice none 0 0,λ_=>.slice none 0 0,Jq _,rfl,⟨(ZP l).congr (λj V=>zhL N j V),Jr _,λi H=>by omega,λi H=>by omega,λi j _ V=>by omega⟩,bZ.grown f (Jr _) (by simp)⟩
 case round =>
  obtain⟨k,L,C,hk,rfl,m,a⟩:=hrel;clear l f
  by_cases hlt:k<N
  ·obtain⟨b,off,la,B,ca,A,rfl,P,h1,h2,h3,Q,R,T,U,h8,h9,v,x⟩:=HZ k hlt
   have q:=Ja w _ h1;have c0:=(a.cell (p:=⟨b,off+_,_⟩) q).trans P;have c1:=(a.cell q).trans h1;have c2:=(a.cell (p:=⟨b,_+2,_⟩) q).trans h2;have c3:=(a.cell (p:=⟨b,_+3,_⟩) q).trans h3;have c4:=(a.cell (p:=⟨b,_+4,_⟩) q).trans Q;have c5:=(a.cell (p:=⟨b,_+5,_⟩) q).trans R;have c6:=(a.cell (p:=⟨b,_+6,_⟩) q).trans T;have c7:=(a.cell (p:=⟨b,_+7,_⟩) q).trans U;obtain⟨_,_,s3,s4⟩:=HS k hlt;have u:Hid (_/\_):=⟨h8,v⟩;have t:Hid (_/\_):=⟨h9,x⟩;have h:=zk a (.cells (S k,la,B,ca,A) 140);have o:=m.below (zk (Ji _ wr) (.cells (S k,la,B,ca,A) 140));have r:=Jb wr (.cells (S k,la,B,ca,A) 140);clear P h1 h2 h3 Q R T U h8 h9 v x m;go_wp2_with fail;generalize wr.alloc _=W at h o r ⊢;clear c0 c1 c2 c3 c4 c5 c6 c7 a r;refine(zhk _ la ca B A _ s3 s4 (u.1.below h) (t.1.below h) u.2 t.2).mono ?_;rintro e w2 ⟨⟨lv,cv,rfl,I,G⟩,n⟩;have y:=o.step n hlt I G;have d:=o.below n;obtain⟨al,cl,rfl,_⟩:=zp I;obtain⟨ac,F,rfl,_⟩:=zp G;have o0:=d.row.cell (i:=k*8) (by omega)
   have f0:=d.row.frozen (k*8);have o1:=d.row.cell (i:=k*8+1) (by omega)
   have f1:=d.row.frozen (k*8+1);have o2:=d.row.cell (i:=k*8+2) (by omega)
   have f2:=d.row.frozen (k*8+2);have o3:=d.row.cell (i:=k*8+3) (by omega)
   have f3:=d.row.frozen (k*8+3);have o4:=d.row.cell (i:=k*8+4) (by omega)
   have f4:=d.row.frozen (k*8+4);have o5:=d.row.cell (i:=k*8+5) (by omega)
   have f5:=d.row.frozen (k*8+5);have o6:=d.row.cell (i:=k*8+6) (by omega)
   have f6:=d.row.frozen (k*8+6);have o7:=d.row.cell (i:=k*8+7) (by omega)
   have f7:=d.row.frozen (k*8+7);have E:=hI y;have D:Hid (Below _ w (zjz w2 _ (k*8) (S k).id (S k).fr (S k).dst (S k).dep (S k).arr (al,(S k).la.n,cl) (ac,(S k).ca.n,F) (S k).most)):=zfa (ze h n) (Jr _);clear y o d I G h n;go_wp2;go_roundw
   case rel =>
    have z:=E;have s:=D;unfold zjz at z s;exact⟨_,_,_,by omega,by go_num,z,s⟩
   case measure=>simp[intOf];omega
  ·obtain rfl:k=N:=by omega
   have Z:=hI (m.own (by unfold maxLen;omega))
   go_wp2;go_ret;exact⟨⟨_,L,C,rfl,Z⟩,a⟩
end
section
open Go.RowKit
structure COf (w u:World)(m h:Nat)(x:Off)(c b a:Option Addr)(f e d:Nat)(j k l:Option Nat):Prop where
 bel:Below w.heap.size w u
 rl:w.heap.size<=h
 src:Off.Is w [(c,x.san,f),(b,x.ldn,e),(a,x.bkn,d)] x
 sh:Off.Short x 1048576
 lg:∀ i,i<x.bkn->0<(x.bk i).lgn
 box:u.heap[m]?=some (.cells #[(c,x.san,f),(b,x.ldn,e),(a,x.bkn,d)] 38 (0,0))
 res:u.heap[h]?=some (.cells #[True,True,True] 38 (0,0))
 h1:∀ g,j=some g->∃ L C,qM u w.heap.size (some (g,0),x.san,x.san) x.san x.sa L C
 h2:∀ g,k=some g->∃ A B D,qC u w.heap.size (some (g,0),x.ldn,x.ldn) x.ldn x.ld A B D
 h3:∀ g,l=some g->∃ E,ZC u w.heap.size (some (g,0),x.bkn,x.bkn) x.bkn x.bk E
section
variable {w u : World} {xb rb : Nat} {x : Off} {asa ald abk : Option Addr} {csa cld cbk : Nat} {p1 p2 p3 : Option Nat}
theorem COf.s (h:COf w u xb rb x asa ald abk csa cld cbk p1 p2 p3):u.cell? (xb,0)=some (asa,x.san,csa)/\u.cell? (xb,1)=some (ald,x.ldn,cld)/\u.cell? (xb,2)=some (abk,x.bkn,cbk):=⟨za h.box 0 _ rfl,za h.box 1 _ rfl,za h.box 2 _ rfl⟩
theorem COf.below {b:World}(h:COf w u xb rb x asa ald abk csa cld cbk p1 p2 p3)(a:Below u.heap.size u b):COf w b xb rb x asa ald abk csa cld cbk p1 p2 p3:=⟨ze h.bel a,h.rl,h.src,h.sh,h.lg,zb h.box a,zb h.res a,λg e=>(by obtain⟨L,C,k⟩:=h.h1 g e;exact⟨L,C,k.below a⟩),λg e=>(by obtain⟨A,B,D,k⟩:=h.h2 g e;exact⟨A,B,D,k.below a⟩),λg e=>(by obtain⟨E,k⟩:=h.h3 g e;exact⟨E,k.below a⟩)⟩
theorem COf.c1 (h:COf w u xb rb x asa ald abk csa cld cbk none p2 p3):Calls prog 112 #[(asa,x.san,csa),.func (.func 113) #[] #[]] u λe c=>∃ g,e=.returned (some (g,0),x.san,x.san)/\Hid (COf w c xb rb x asa ald abk csa cld cbk (some g) p2 p3):=by
 obtain⟨_,_,_,_,_,_,a,b,_,i,_,f,_⟩:=h.src;simp only[List.cons.injEq,Value.slice.injEq,true_and,and_true] at a;obtain⟨⟨rfl,rfl⟩,⟨rfl,rfl⟩,rfl,rfl⟩:=a;refine(zkT asa _ csa _ u h.sh.1.1 h.sh.1.2 (b.below h.bel)).mono ?_;rintro e c ⟨⟨g,L,C,rfl,j⟩,d⟩;have k:=h.below d;exact⟨g,rfl,k.bel,k.rl,k.src,k.sh,k.lg,k.box,k.res,λg' e=>(by cases e;exact⟨L,C,j.base h.bel.size⟩),k.h2,k.h3⟩
theorem COf.c2 (h:COf w u xb rb x asa ald abk csa cld cbk p1 none p3):Calls prog 114 #[(ald,x.ldn,cld),.func (.func 115) #[] #[]] u λe c=>∃ g,e=.returned (some (g,0),x.ldn,x.ldn)/\Hid (COf w c xb rb x asa ald abk csa cld cbk p1 (some g) p3):=by
 obtain⟨_,_,_,_,_,_,a,j,_,b,_,f,_⟩:=h.src;simp only[List.cons.injEq,Value.slice.injEq,true_and,and_true] at a;obtain⟨⟨rfl,rfl⟩,⟨rfl,rfl⟩,rfl,rfl⟩:=a;refine(zjc ald _ cld _ u h.sh.2.1.1 h.sh.2.1.2 (b.below h.bel)).mono ?_;rintro e c ⟨⟨g,A,B,D,rfl,i⟩,d⟩;have k:=h.below d;exact⟨g,rfl,k.bel,k.rl,k.src,k.sh,k.lg,k.box,k.res,k.h1,λg' e=>(by cases e;exact⟨A,B,D,i.lower h.bel.size⟩),k.h3⟩
theorem COf.c3 (h:COf w u xb rb x asa ald abk csa cld cbk p1 p2 none):Calls prog 116 #[(abk,x.bkn,cbk),.func (.func 117) #[] #[]] u λe d=>∃ g,e=.returned (some (g,0),x.bkn,x.bkn)/\Hid (COf w d xb rb x asa ald abk csa cld cbk p1 p2 (some g)):=by
 obtain⟨_,_,_,_,_,_,a,m,_,j,_,b,_⟩:=h.src;simp only[List.cons.injEq,Value.slice.injEq,true_and,and_true] at a;obtain⟨⟨rfl,rfl⟩,⟨rfl,rfl⟩,rfl,rfl⟩:=a;refine(ziA abk _ cbk _ u h.sh.2.2.1 (λi c=>⟨h.lg i c,(h.sh.2.2.2 i c).2⟩) (b.below h.bel)).mono ?_
 rintro e d ⟨⟨g,E,rfl,l⟩,f⟩;have k:=h.below f;exact⟨g,rfl,k.bel,k.rl,k.src,k.sh,k.lg,k.box,k.res,k.h1,k.h2,λg' e=>(by cases e;exact⟨E,l.lower h.bel.size⟩)⟩
structure COe (w u:World)(g k:Nat)(x:Off)(c b a:Option Addr)(f e d h i j:Nat):Prop where
 bel:Below w.heap.size w u
 s:u.cell? (g,0)=some (c,x.san,f)/\u.cell? (g,1)=some (b,x.ldn,e)/\u.cell? (g,2)=some (a,x.bkn,d)
 res:u.heap[k]?=some (.cells #[(some (h,0),x.san,x.san),(some (i,0),x.ldn,x.ldn),(some (j,0),x.bkn,x.bkn)] 38 (0,0))
 own:∃ L C A B D E,zF u w.heap.size (some (h,0),x.san,x.san) (some (i,0),x.ldn,x.ldn) (some (j,0),x.bkn,x.bkn) x.san x.ldn x.bkn x L C A B D E
theorem COf.fin {c d e:Nat}(h:COf w u xb rb x asa ald abk csa cld cbk (some c) (some d) (some e))(g:xb≠rb):COe w (((u.setCell (rb,0) (some (c,0),x.san,x.san)).setCell (rb,1) (some (d,0),x.ldn,x.ldn)).setCell (rb,2) (some (e,0),x.bkn,x.bkn)) xb rb x asa ald abk csa cld cbk c d e:=by
 have i:zx u (((u.setCell _ (some (c,0),x.san,x.san)).setCell _ (some (d,0),x.ldn,x.ldn)).setCell _ (some (e,0),x.bkn,x.bkn)) _:=(((zx.refl u (λb=>b=rb)).set (a:=(rb,0)) rfl _).set (a:=(rb,1)) rfl _).set (a:=(rb,2)) rfl _
 have f:=i.blk h.box g;obtain⟨L,C,j⟩:=h.h1 _ rfl;obtain⟨A,B,D,k⟩:=h.h2 _ rfl;obtain⟨E,l⟩:=h.h3 _ rfl;exact⟨((h.bel.setCell h.rl _).setCell h.rl _).setCell h.rl _,⟨za f 0 _ rfl,za f 1 _ rfl,za f 2 _ rfl⟩,by simpa using zm (zm (zm h.res 0 _) 1 _) 2 _,L,C,A,B,D,E,zF.box ⟨j,k,l⟩ i h.res (by decide)⟩
end
theorem zeh (x:Off)(f d c:Option Addr)(k j g:Nat)(w:World)(F:Off.Short x 1048576)(y:∀ i,i<x.bkn->0<(x.bk i).lgn)(h:Off.Is w [.slice f x.san k,.slice d x.ldn j,.slice c x.bkn g] x) :
  Calls prog 54 #[.agg #[.slice f x.san k,.slice d x.ldn j,.slice c x.bkn g]] w λe w'=>(∃ n o p L C A B D E,e=.returned (.agg #[.slice (some ⟨n,0,none⟩) x.san x.san,.slice (some ⟨o,0,none⟩) x.ldn x.ldn,.slice (some ⟨p,0,none⟩) x.bkn x.bkn])/\zF w' w.heap.size (.slice (some ⟨n,0,none⟩) x.san x.san) (.slice (some ⟨o,0,none⟩) x.ldn x.ldn) (.slice (some ⟨p,0,none⟩) x.bkn x.bkn) x.san x.ldn x.bkn x L C A B D E)/\Below w.heap.size w w':=by
 have a:Hid (COf w _ _ (w.heap.size+1) x f d c k j g none none none) :=
  ⟨(zk (zk bZ _) _).drew,by omega,h,F,y,zK (zd (Jb w _) _),zK (by simpa using Jb (w.alloc _) _),λ_ e=>(by cases e),λ_ e=>(by cases e),λ_ e=>(by cases e)⟩
 have q:w.heap.size≠w.heap.size+1:=by omega
 go_enter func54,ntmps54;go_upto_region 1 with fail;refine qg 11 11 (λu=>u.cell? _=_/\u.cell? _=_/\u.cell? _=_) rfl (by kernel_rfl) a.out.s (λl=>?_)
 simp only[List.replicate_succ,List.replicate_zero];generalize ((w.alloc _).alloc _).drew=u0 at a l ⊢
 (refine tkN 0 (v:=?_) rfl (by kernel_rfl) (λ_ _ _ h=>h) rfl (by assumption) ?_ ?_;rotate_left;(focus(intro w' h;(try dsimp only at h);go_simp;try with_reducible rfl));simp only[Act.put,sB,sZ,sS])
 (refine tkN 1 (v:=?_) rfl (by kernel_rfl) (λ_ _ _ h=>h) rfl (by assumption) ?_ ?_;rotate_left;(focus(intro w' h;(try dsimp only at h);go_simp;try with_reducible rfl));simp only[Act.put,sB,sZ,sS])
 (refine tkN 3 (v:=?_) rfl (by kernel_rfl) (λ_ _ _ h=>h) rfl (by assumption) ?_ ?_;rotate_left;(focus(intro w' h;(try dsimp only at h);go_simp;try with_reducible rfl));simp only[Act.put,sB,sZ,sS])
 (refine tkN 4 (v:=?_) rfl (by kernel_rfl) (λ_ _ _ h=>h) rfl (by assumption) ?_ ?_;rotate_left;(focus(intro w' h;(try dsimp only at h);go_simp;try with_reducible rfl));simp only[Act.put,sB,sZ,sS])
 (refine tkN 6 (v:=?_) rfl (by kernel_rfl) (λ_ _ _ h=>h) rfl (by assumption) ?_ ?_;rotate_left;(focus(intro w' h;(try dsimp only at h);go_simp;try with_reducible rfl));simp only[Act.put,sB,sZ,sS])
 (refine tkN 7 (v:=?_) rfl (by kernel_rfl) (λ_ _ _ h=>h) rfl (by assumption) ?_ ?_;rotate_left;(focus(intro w' h;(try dsimp only at h);go_simp;try with_reducible rfl));simp only[Act.put,sB,sZ,sS])
 refine zj (rs:=[2]) (by kernel_rfl) (by simp) ?_
 refine zc.consL rfl (λK b=>?_) zc.nil
 focus
  go_simp;go_at_call 112;refine Jm (a.out.c1) ?_;rintro e u1 ⟨n,rfl,a⟩;dsimp only;refine b.out _ _ a.out.s (λl=>?_)
  clear b K;simp only[sZ,sS];refine zj (rs:=[5]) (by kernel_rfl) (by simp) ?_
  refine zc.consL rfl (λK b=>?_) zc.nil
  focus
   go_simp;go_at_call 114;refine Jm (a.out.c2) ?_;rintro e u2 ⟨o,rfl,a⟩;dsimp only;refine b.out _ _ a.out.s (λl=>?_)
   clear b K;simp only[sZ,sS];refine zj (rs:=[8]) (by kernel_rfl) (by simp) ?_
   refine zc.consL rfl (λK b=>?_) zc.nil
   focus
    go_simp;go_at_call 116;refine Jm (a.out.c3) ?_;rintro e u3 ⟨p,rfl,a⟩;dsimp only;refine b.out _ _ a.out.s (λl=>?_)
    clear b K;simp only[sZ,sS]
 all_goals
  (refine tkN 9 (v:=?_) rfl (by kernel_rfl) (λ_ _ _ h=>h) rfl (by assumption) ?_ ?_;rotate_left;(focus(intro w' h;(try dsimp only at h);go_simp;try with_reducible rfl));simp only[Act.put,sB,sZ,sS])
  obtain⟨G,H,I⟩:=ce3 a.out.res;obtain⟨r,s,t⟩:=fe3 a.out.res;refine zj (rs:=[10]) (by kernel_rfl) (by simp) ?_
  refine zc.consL rfl (λK b=>?_) zc.nil
  go_simp;have m:=hI (a.out.fin q);refine b.out _ _ m.out.s (λl=>?_)
  clear b K G H I r s t;simp only[sZ,sS];refine zX (by kernel_rfl) ?_ _
  go_wp2;obtain⟨J,M,N⟩:=ce3 m.out.res;obtain⟨L,C,A,B,D,E,z⟩:=m.out.own;exact Jj (by simp[results,results54,go_sem,J,M,N]) rfl ⟨⟨n,o,p,L,C,A,B,D,E,rfl,z⟩,m.out.bel⟩
end
theorem zkU (k:Nat)(w:World)(hk:k<=4194304) :
  Calls prog 252 #[.slice none 0 0,int i64 k] w λe w'=>(∃ v,e=.returned v/\w'.ownsRow w.heap.size 268 10 v 0 [])/\Below w.heap.size w w':=by
 have d0:decide ((k:Int)<0)=false:=by simp
 by_cases h0:0<k
 ·obtain⟨f,g,b,h,c⟩:=info_parts Tryz.infoWorkI
  have a:=Lib.run_append_nil_zeros w 175 3 175 268 f _ .i64 _ underlying175 underlying3 g b k h0 (by omega) (by omega) (by rw[c];omega)
  have d1:decide (0<k)=true:=by simpa using h0
  go_enter func252,ntmps252;go_wp2_with (first|(at_builtin;refine Lib.wpList_append_run _ rfl _ _ _ _ rfl _ _ rfl rfl _ _ a ?_))
  go_ret;have d:=grownCap_ge w k 0 268;refine⟨⟨_,rfl,rfl,.inr ⟨_,_,_,rfl,Jr _,Jb w _,Jq _,grownCap_le_maxLen w k 0 _ (by unfold maxLen;omega),?_,rfl⟩⟩,(zk (Ji _ w) _).drew⟩
  rw[Array.size_append,size_zeroCells,size_zeroCells]
  show k*10+_*10=_
  omega
 ·obtain rfl:k=0:=by omega
  go_enter func252,ntmps252;go_wp2;go_ret;exact⟨⟨_,rfl,rfl,.inl ⟨rfl,rfl⟩⟩,bZ⟩
def zhl (n j r:Nat):Nat:=if r=0 then 0 else if r=1 then n else n+j
def cumL (a b:List Value)(r:Nat):List Value:=if r=0 then [] else if r=1 then a else a++b
theorem znT (R:Nat)(p q:Option Addr)(n j t D:Nat)(b c:List Value)(w:World)(hn:n<=1048576)(E:j<=1048576)(X:b.length=n*10)(Y:c.length=j*10)(Z:∀ u ∈ b,u.oneCell'=true)(oy:∀ u ∈ c,u.oneCell'=true)
  (m:w.heap[R]?=some (.cells #[.slice p n t,.slice q j D] 175 (0,0))) (N:zcb w p b) (O:zcb w q c) (I:p=none->n=0/\t=0) (J:q=none->j=0/\D=0) :
  Calls prog 201 #[.slice (some ⟨R,0,none⟩) 2 2] w λe w'=>(∃ v,e=.returned v/\w'.ownsRow w.heap.size 268 10 v (n+j) (b++c))/\Below w.heap.size w w':=by
 obtain⟨P,Q,A,B,C⟩:=info_parts Tryz.infoWorkI;have V:=hI N;have W:=hI O;have S:w.cell? _=some (.slice p n t):=za m 0 _ rfl;have T:w.cell? _=some (.slice q j D):=za m 1 _ rfl;have c0:zhl n j 0=0:=rfl;have c1:zhl n j 1=n:=rfl;have c2:zhl n j 2=n+j:=rfl;have d0:cumL b c 0=[]:=rfl;have L:cumL b c 1=b:=rfl;have M:cumL b c 2=b++c:=rfl;clear N O;go_enter func201,ntmps201;go_wp2;go_loopg [3,5,11] 2 (λg s _ i wr=>∃ r,r<=2/\g=2 - r/\i=int i64 r/\s=int i64 (zhl n j r)/\wr=w)
 case atStart=>exact⟨0,by omega,rfl,rfl,rfl,rfl⟩
 case round =>
  obtain⟨r,hr,rfl,rfl,rfl,y⟩:=hrel;have z:=y.symm;subst z;clear y;have k:r=0∨r=1∨r=2:=by omega
  rcases k with rfl|rfl|rfl
  ·go_wp2
   go_roundg 1
   case measure=>omega
   case rel=>exact⟨1,by omega,rfl,by go_num,by rw[c1],rfl⟩
  ·have hd:decide ((n:Int)+(j:Int)<0)=false:=by simp;omega
   go_wp2;go_roundg 0
   case measure=>omega
   case rel=>exact⟨2,by omega,rfl,by go_num,by rw[c2];go_num,rfl⟩
  ·go_wp2_with fail
   refine(zkU _ _ (by omega)).mono ?_
   rintro e w1 ⟨⟨v,rfl,K⟩,H⟩;clear S T;go_wp2;go_loopg [6,8,27] 2 (λg u _ i wr=>∃ r,r<=2/\g=2 - r/\i=int i64 r/\wr.ownsRow w.heap.size 268 10 u (zhl n j r) (cumL b c r)/\Below w.heap.size w wr)
   case atStart=>exact⟨0,by omega,rfl,rfl,K,H⟩
   case round =>
    obtain⟨r,hr,rfl,rfl,o,a⟩:=hrel;obtain⟨U,G⟩:∃ x,x=wr:=⟨_,rfl⟩;subst G;have f:=a.size;have h:=zb m a;have S:U.cell? _=some (.slice p n t):=za h 0 _ rfl;have T:U.cell? _=some (.slice q j D):=za h 1 _ rfl;have k:r=0∨r=1∨r=2:=by omega
    rcases k with rfl|rfl|rfl
    ·have F:=hI (V.out.below a)
     go_wp2_with (first|(at_builtin;refine zv _ rfl _ _ 175 rfl _ 268 P _ 10 80 underlying175 Q A B C rfl (by decide) _ 0 [] (by rfl) o p n t b rfl I X F.out Z (by unfold maxLen;omega) (by omega) f ?_;intro v' w3 d l))
     go_roundg 1
     case measure=>omega
     case rel=>exact⟨1,by omega,rfl,by go_num,by
      rw[c1,L];rw[Nat.zero_add,List.nil_append] at d;exact d,a.grown l f (λj E=>(o.lt j E).1)⟩
    ·have F:=hI (W.out.below a)
     rw[c1,L] at o;go_wp2_with (first|(at_builtin;refine zv _ rfl _ _ 175 rfl _ 268 P _ 10 80 underlying175 Q A B C rfl (by decide) _ n b (by rfl) o q j D c rfl J Y F.out oy (by unfold maxLen;omega) (by omega) f ?_;intro v' w3 d l))
     go_roundg 0
     case measure=>omega
     case rel=>exact⟨2,by omega,rfl,by go_num,by
      rw[c2,M];exact d,a.grown l f (λj E=>(o.lt j E).1)⟩
    ·rw[c2,M] at o
     go_wp2;go_ret;exact⟨⟨_,rfl,o⟩,a⟩
theorem zdz {w:World}{base e sz n c:Nat}{f:Option Addr}{a:List Value}(h:w.ownsRow base e sz (f,n,c) n a):zcb w f a:=by
 intro ad k j u d;subst k;have i:j<a.length:=by
  rcases Nat.lt_or_ge j a.length with h1|h1
  ·exact h1
  ·rw[List.getElem?_eq_none h1] at d;cases d
 have l:0<n:=by
  rcases Nat.eq_zero_or_pos n with b|b
  ·rw[h.1,b,Nat.zero_mul] at i;omega
  ·exact b
 obtain⟨g,e,_,_⟩:=qh h l
 cases e
 rw[Addr.add_lit,Nat.zero_add,h.cellAt j (by rw[← h.1];exact i),d]
def goL (x:Off)(y:OpD)(m:Nat):List Wk:=if Qt y.kind then Zh true (x.bk m).who ⟨(x.bk m).pe,(x.bk m).len,(x.bk m).hei,(x.bk m).cl,(x.bk m).all,(x.bk m).be⟩ (x.bk m).lg (x.bk m).lgn else []
theorem goL_len (x:Off)(y:OpD)(m:Nat)(h:Qt y.kind->(x.bk m).lgn<=3):(goL x y m).length<=9:=by
 unfold goL
 split
 ·rename_i c
  have:=QD true (x.bk m).who ⟨(x.bk m).pe,(x.bk m).len,(x.bk m).hei,(x.bk m).cl,(x.bk m).all,(x.bk m).be⟩ (x.bk m).lg (x.bk m).lgn;have:=h c
  omega
 ·exact Jq _
theorem zjd (x:Off)(Q:Option Addr)(a8:Nat)(c:Int)(y:OpD)(l:Option Addr)(r k m:Nat)(w:World)(hF:Zm w)(hk:y.kind=(k:Int))(a0:k<10)(S:qO w Q x.bkn x.bk)
  (J:Qt y.kind->y.name=(m:Int)+1/\m<x.bkn/\(x.bk m).lgn<=3/\FitP ⟨(x.bk m).pe,(x.bk m).len,(x.bk m).hei,(x.bk m).cl,(x.bk m).all,(x.bk m).be⟩) (Z:zJ y.kind->y.lgn<=3/\FitP ⟨y.pe,y.len,y.hei,y.cl,y.all,y.be⟩) (hl:zT w l y.lgn y.lg) (b1:x.bkn<=1048576) :
  Calls prog 109 #[(Q,x.bkn,a8),c,.agg (y,l,r)] w λe w'=>(∃ v,e=.returned v/\w'.ownsRow w.heap.size 268 10 v (qk x c y m).length (zgF (qk x c y m)))/\Below w.heap.size w w':=by
 have HF:=hI hF;have HK:=hI hk;have HB:=hI S;have A:Hid (zdy k=true->_/\_):=λh=>by
  have h2:=by simpa [zdy] using h
  have h3:Qt y.kind:=by unfold Qt;omega
  exact⟨h3,J h3⟩
 have B:Hid (zdy k=false->¬ Qt y.kind):=λh h3=>by
  have h2:¬ (k=5∨k=6∨k=8):=by simpa [zdy] using h
  unfold Qt at h3
  omega
 have E:Hid (QZ k=true->_/\_):=λh=>by
  have h2:=by simpa [QZ] using h
  have h3:zJ y.kind:=by unfold zJ;omega
  exact⟨h3,Z h3⟩
 have C:Hid (QZ k=false->¬ zJ y.kind):=λh h3=>by
  have h2:¬ (k=1∨k=2∨k=3∨k=5):=by simpa [QZ] using h
  unfold zJ at h3
  omega
 have O:=hI (goL_len x y m (λh=>(J h).2.2.1))
 have HI:=hI hl;clear hF hk S J Z hl;have b2:(0:Int)<=(k:Int):=by omega
 have b3:(k:Int)<10:=by omega
 have a:Below _ w (w.alloc (.cells (y,l,r) 47)):=zk bZ _;have L:=Jb w (.cells (y,l,r) 47);go_enter func109,ntmps109;go_upto_region 2 with fail;generalize w.alloc _=V at a L ⊢;have y0:V.cell? (w.heap.size,0)=some (k:Int):=by rw[← HK.out];exact za L 0 _ rfl
 have t6:=((HF.below a) k a0).2.2.2.2.2.2;go_upto_if 13 with fail;clear y0 t6;go_cut [7] (λs7 wx=>wx.ownsRow w.heap.size 268 10 s7 (goL x y m).length (zgF (goL x y m))/\wx.heap[w.heap.size]?=some (.cells (y,l,r) 47 (0,0))/\Below w.heap.size w wx)
 case first =>
  obtain⟨fb,X⟩:∃ fb,fb=zdy k:=⟨_,rfl⟩;rw[← X] at A B ⊢;clear X
  cases fb with
  | false =>
   have HG:Hid (goL x y m=[]):=Je (B rfl);go_wp2;go_meet;exact⟨by rw[HG.out];exact World.ownsRow_nil _ _ _ _,L,a⟩
  | true =>
   obtain⟨h1,h2,h3,h4,h5⟩:=A rfl;have HG:Hid (goL x y m=_):=Jf h1;obtain⟨D,hD,hJ⟩:=HB;obtain⟨bb,bo,rfl,j⟩:=hD m h3;obtain⟨b,I⟩:∃ b,b=x.bk m:=⟨_,rfl⟩;obtain⟨q,o,i,K,a3⟩:=hJ m h3;rw[← I] at i K a3 HG h4 h5;have b0:=hI I;have a4:=hI K;have z:=hI h5;have d:bb<w.heap.size:=Ja w _ (j 0 (by decide))
   have y2:V.cell? (w.heap.size,2)=some (int i64 ((m:Int)+1)):=by rw[← h2];exact za L 2 _ rfl
   clear h2;have b6:IntKind.i64.wrap ((m:Int)+1 - 1)=(m:Int):=by rw[Jk];omega
   have i0:(0:Int)<=(m:Int):=by omega
   have i1:(m:Int)<(x.bkn:Int):=by omega
   have c0:V.cell? _=some (.int _ _):=(a.cell (p:=⟨bb,bo+_,_⟩) d).trans (by have:=j 0 (by decide);rw[i] at this;exact this)
   have c1:V.cell? _=some (.int _ _):=(a.cell d).trans (by have:=j 1 (by decide);rw[i] at this;exact this)
   have c2:V.cell? _=some (.string _):=(a.cell d).trans (by have:=j 2 (by decide);rw[i] at this;exact this)
   have c3:V.cell? _=some (.slice q _ o):=(a.cell d).trans (by have:=j 3 (by decide);rw[i] at this;exact this)
   have c4:V.cell? _=some (.int _ _):=(a.cell d).trans (by have:=j 4 (by decide);rw[i] at this;exact this)
   have c5:V.cell? _=some (.int _ _):=(a.cell d).trans (by have:=j 5 (by decide);rw[i] at this;exact this)
   have c6:V.cell? _=some (.int _ _):=(a.cell d).trans (by have:=j 6 (by decide);rw[i] at this;exact this)
   have c7:V.cell? _=some (.int _ _):=(a.cell d).trans (by have:=j 7 (by decide);rw[i] at this;exact this)
   have c8:V.cell? _=some (.bool _):=(a.cell d).trans (by have:=j 8 (by decide);rw[i] at this;exact this)
   have c9:V.cell? _=some (.int _ _):=(a.cell d).trans (by have:=j 9 (by decide);rw[i] at this;exact this)
   have a5:V.cell? _=some (.int _ _):=(a.cell d).trans (by have:=j 10 (by decide);rw[i] at this;exact this)
   have a6:V.cell? _=some (.int _ _):=(a.cell d).trans (by have:=j 11 (by decide);rw[i] at this;exact this)
   have a7:V.cell? _=some (.int _ _):=(a.cell d).trans (by have:=j 12 (by decide);rw[i] at this;exact this)
   clear hD hJ j i I K a3 h5;have u:=Jb V (.cells (b,q,o) 150);have g:=zk a (.cells (b,q,o) 150);have f:=zd L (.cells (b,q,o) 150);go_upto_region 4 with fail;generalize V.alloc _=V1 at u g f ⊢;generalize V.heap.size=bx at u ⊢;clear c0 c1 c2 c3 c4 c5 c6 c7 c8 c9 a5 a6 a7 y2;have e1:=za u 1 _ rfl;have e3:=za u 3 _ rfl;have e4:=za u 4 _ rfl;have e5:=za u 5 _ rfl;have e6:=za u 6 _ rfl;have e7:=za u 7 _ rfl;have e8:=za u 8 _ rfl;have e9:=za u 9 _ rfl;go_wp2_with fail;clear e1 e3 e4 e5 e6 e7 e8 e9;refine(zgG q _ o _ _ _ _ _ h4 z (a4.below g)).mono ?_;rintro e W ⟨⟨v,rfl,M⟩,n⟩;go_wp2;go_meet;rw[HG.out];exact⟨zu M g.size,zb f n,ze g n⟩
 case rest =>
 obtain⟨t,f,g⟩:=hcut;clear L a A B HB;obtain⟨F,G⟩:∃ F,F=goL x y m:=⟨_,rfl⟩;have N:Hid (qk x c y m=F++(if zJ y.kind then Zh false c ⟨y.pe,y.len,y.hei,y.cl,y.all,y.be⟩ y.lg y.lgn else [])):=by show _=_;rw[G];rfl
 rw[← G] at t O;clear G;have y0:wc.cell? (w.heap.size,0)=some (k:Int):=by rw[← HK.out];exact za f 0 _ rfl
 have t3:=((HF.below g) k a0).2.2.2.1;obtain⟨ra,rc,rfl,s1,_,s3⟩:=zp t;go_upto_if 32 with fail;clear y0 t3;obtain⟨fp,Y⟩:∃ fp,fp=QZ k:=⟨_,rfl⟩;rw[← Y] at E C ⊢;clear Y
 cases fp with
 | false =>
  have HN:Hid (qk x c y m=F):=by show _=_;rw[N.out,Je (C.out rfl),List.append_nil]
  go_wp2;go_ret;exact⟨⟨_,rfl,by rw[HN.out];exact t⟩,g⟩
 | true =>
  obtain⟨h1,h2,h3⟩:=E rfl;have z:=hI h3;have HN:Hid (qk x c y m=F++Zh false c ⟨y.pe,y.len,y.hei,y.cl,y.all,y.be⟩ y.lg y.lgn):=by show _=_;rw[N.out,Jf h1]
  clear h1 h3 E C;have e3:=za f 3 _ rfl;have e4:=za f 4 _ rfl;have e5:=za f 5 _ rfl;have e6:=za f 6 _ rfl;have e7:=za f 7 _ rfl;have e8:=za f 8 _ rfl;have e9:=za f 9 _ rfl;go_wp2_with fail;clear e3 e4 e5 e6 e7 e8 e9;refine(zgG l _ r _ c _ _ _ h2 z (HI.below g)).mono ?_;rintro e W ⟨⟨v,rfl,M⟩,n⟩;obtain⟨P,H⟩:∃ P,P=Zh false c ⟨y.pe,y.len,y.hei,y.cl,y.all,y.be⟩ y.lg y.lgn:=⟨_,rfl⟩;have b5:P.length<=9:=by rw[H];have:=QD false c ⟨y.pe,y.len,y.hei,y.cl,y.all,y.be⟩ y.lg y.lgn;omega
  rw[← H] at M HN;clear H;obtain⟨qa,qc,rfl,q1,_,q3⟩:=zp M;have b4:=O.out;have a1:=zo n t;have R:=ze g n;have s:Below _ W (W.alloc (.cells #[.slice ra F.length rc,.slice qa P.length qc] 175)):=zk bZ _;have bS:=Jb W (.cells #[.slice ra F.length rc,.slice qa P.length qc] 175);go_wp2_with fail;refine(znT _ ra qa _ _ rc qc _ _ _ (by omega) (by omega) (zmE _) (zmE _) (zmF _) (zmF _) bS ((zdz a1).below s) ((zdz M).below s) s3 q3).mono ?_
  rintro e U ⟨⟨v,rfl,a2⟩,T⟩;have a9:=ze (ze R s) T;have HU:Hid (U.ownsRow w.heap.size 268 10 v (qk x c y m).length (zgF (qk x c y m))):=by show U.ownsRow _ _ _ _ _ _;rw[HN.out,wkRI_app,List.length_append];exact zu a2 (ze R s).size
  clear M t a1 a2 bS s T n;go_wp2;go_ret;exact⟨⟨_,rfl,HU⟩,a9⟩
section
open Go.RowKit
theorem zmN:∀ (l:List Wk)(j:Nat)(v:Wk),l[j]?=some v->∀ r,r<10->(zgF l)[j*10+r]?=(wkI v)[r]?
 | [],j,v,h,_,_=>by simp at h
 | u :: l,0,v,h,r,hr=>by
  have e:=by simpa using h
  subst e
  show(_++zgF l)[_]?=_
  rw[List.getElem?_append_left (by show _<10;omega),Nat.zero_mul,Nat.zero_add]
 | u :: l,j+1,v,h,r,hr=>by
  have h2:=by simpa using h
  show(_++zgF l)[_]?=_
  rw[List.getElem?_append_right (by show 10<=_;omega),show(j+1)*10+r - (wkI u).length=j*10+r by show _ - 10=_;omega]
  exact zmN l j v h2 r hr
theorem ldRow_one {A B D:Nat->Value}{N:Nat}(h:∀ i,i<N->∃ a e c1 b f c2 c g c3,A i=.slice a e c1/\B i=.slice b f c2/\D i=.slice c g c3):∀ u ∈ zdZ A B D N,u.oneCell'=true:=by
 intro u d;unfold zdZ at d;obtain⟨j,n,rfl⟩:=List.mem_map.1 d;have o:=by simpa using n
 obtain⟨a,e,c1,b,f,c2,c,g,c3,k,l,m⟩:=h (j / 3) (by omega)
 unfold zZ ldC;rw[k,l,m];have:j % 3=0∨j % 3=1∨j % 3=2:=by omega
 rcases this with q|q|q <;> rw[q] <;> rfl
theorem qC.forms {w:World}{base N:Nat}{v:Value}{S:Nat->zY}{A B D:Nat->Value}(h:qC w base v N S A B D){i:Nat}(d:i<N):∃ a c1 b c2 c c3,A i=.slice a (S i).stn c1/\B i=.slice b (S i).ron c2/\D i=.slice c (S i).sen c3:=by
 obtain⟨a,c1,e,_⟩:=zp (h.st i d);obtain⟨b,c2,f,_⟩:=zp (h.ro i d);obtain⟨c,c3,g,_⟩:=zp (h.se i d);exact⟨a,c1,b,c2,c,c3,e,f,g⟩
section
variable {w : World} {base g c k N lim : Nat} {S : Nat -> zY} {A B D : Nat -> Value}
theorem qC.put3 {m:zY}{x s u H I J:Option Addr}{C y z K L M:Nat}(h:qC w base (some (g,0),N,c) N S A B D)(hk:k<N)(P:A k=.slice x (S k).stn C)(Q:B k=.slice s (S k).ron y)(R:D k=.slice u (S k).sen z)
  (l:∀ i,i<N->(∀ b,(A i).ownBlock=some b->b<lim)/\(∀ b,(B i).ownBlock=some b->b<lim)/\(∀ b,(D i).ownBlock=some b->b<lim)) (p:base<=lim) (r:zaV w lim (S k) m x s u C y z H K I L J M) :
  qC (((w.setCell (g,k*3) (H,m.stn,K)).setCell (g,k*3+1) (I,m.ron,L)).setCell (g,k*3+2) (J,m.sen,M)) base (some (g,0),N,c) N (zht S k m) (atV A k (H,m.stn,K)) (atV B k (I,m.ron,L)) (atV D k (J,m.sen,M)):=by
 have O:zx w (((w.setCell _ (H,m.stn,K)).setCell _ (I,m.ron,L)).setCell _ (J,m.sen,M)) _:=(((zx.refl w (λb=>b=g)).set (a:=(g,k*3)) rfl _).set (a:=(g,k*3+1)) rfl _).set (a:=(g,k*3+2)) rfl _
 have far:∀ {t sz n:Nat} {v} {xs},_->145≠t->(((w.setCell _ _).setCell _ _).setCell _ _).ownsRow base t sz v n xs:=λT U=>O.own T (λq h1 h2=>zI h.row T U q (by rw[show _ from h2];rfl) h1)
 have o:∀ (F),atV F k (F k)=F:=λF=>by
  funext i
  by_cases e:i=k
  ·subst e;exact qu _ _ _
  ·exact qf _ _ _ _ e
 refine⟨zbs (zmM _ _ _ h.row (by unfold ldC;rfl)) (by decide) (λi f=>?_),λi f=>?_,λi f=>?_,λi f=>?_,?_,?_,?_⟩
 ·by_cases e:i=k
  ·subst e;rw[Jf rfl];unfold ldC;rw[qu,qu,qu]
  ·rw[Je e];unfold ldC;rw[qf _ _ _ _ e,qf _ _ _ _ e,qf _ _ _ _ e]
 ·by_cases e:i=k
  ·subst e
   rw[qu,zbi]
   rcases r.1 with⟨d,E,G⟩|d
   ·refine far ?_ (by decide)
    rw[d,E,G,← P];exact h.st i f
   ·exact far (zu d p) (by decide)
  ·rw[qf _ _ _ _ e,zbj _ _ _ e];exact far (h.st i f) (by decide)
 ·by_cases e:i=k
  ·subst e
   rw[qu,zbi]
   rcases r.2.1 with⟨d,E,G⟩|d
   ·refine far ?_ (by decide)
    rw[d,E,G,← Q];exact h.ro i f
   ·exact far (zu d p) (by decide)
  ·rw[qf _ _ _ _ e,zbj _ _ _ e];exact far (h.ro i f) (by decide)
 ·by_cases e:i=k
  ·subst e
   rw[qu,zbi]
   rcases r.2.2 with⟨d,E,G⟩|d
   ·refine far ?_ (by decide)
    rw[d,E,G,← R];exact h.se i f
   ·exact far (zu d p) (by decide)
  ·rw[qf _ _ _ _ e,zbj _ _ _ e];exact far (h.se i f) (by decide)
 ·rcases r.1 with⟨d,_,_⟩|d
  ·rw[d,← P,o];exact h.far.1
  ·exact h.far.1.put (λi f b j=>(l i f).1 b j) (λb j=>(d.lt b j).1)
 ·rcases r.2.1 with⟨d,_,_⟩|d
  ·rw[d,← Q,o];exact h.far.2.1
  ·exact h.far.2.1.put (λi f b j=>(l i f).2.1 b j) (λb j=>(d.lt b j).1)
 ·rcases r.2.2 with⟨d,_,_⟩|d
  ·rw[d,← R,o];exact h.far.2.2
  ·exact h.far.2.2.put (λi f b j=>(l i f).2.2 b j) (λb j=>(d.lt b j).1)
end
def BehindAns (pe:Nat->Addr)(x:Off)(a:List Wk)(base:Nat)(e:Ending)(w:World):Prop :=
 (∃ (M:Nat->zY) (b:Option Addr) (d:Nat) (A B D:Nat->Value),e=.returned (b,x.ldn,d)/\zav x a a.length M/\qC w base (b,x.ldn,d) x.ldn M A B D) ∨
 (∃ (j:Nat) (M:Nat->zY) (v:Wk) (k c:Nat),e=zmK pe c/\1<=c/\c<=8/\zav x a j M/\a[j]?=some v/\zW x.sa v.leg x.san=k/\k<x.san/\qV (x.sa k) v (M k) (c:Int) (M k))
theorem znU (x:Off)(a1 a2 a3:Option Addr)(c1 c2 c3:Nat)(L C A B D E:Nat->Value)(G:List Wk)(aw:Option Addr)(cw base wb:Nat)(pe:Nat->Addr)(w:World)(hO:Zk x)(hs:Off.Short x 1048576)(hd:G.Pairwise zdu)(e6:∀ v ∈ G,Apt x x.ld v/\WkOk x v)(he:qY w pe)
  (a0:zF w base (a1,x.san,c1) (a2,x.ldn,c2) (a3,x.bkn,c3) x.san x.ldn x.bkn x L C A B D E) (d8:base<=w.heap.size) (e5:w.ownsRow wb 268 10 (aw,G.length,cw) G.length (zgF G)) (j2:G.length<=18) :
  Calls prog 108 #[.agg #[(a1,x.san,c1),(a2,x.ldn,c2),(a3,x.bkn,c3)],(aw,G.length,cw)] w λe w'=>BehindAns pe x G base e w'/\Below w.heap.size w w':=by
 have HS:=hI hs;have HD:=hI hd;have d5:=hI e6;have g1:=hI hO;have HE:=hI he;have u:=hI a0;have d4:=hI e5;have n7:=hs.2.1.1;have n8:=hs.1.1;have e4:=hO.2.1;have f9:=hI e4;obtain⟨o1,o2,oe,q1,q2,q3⟩:=zp a0.ld.row;simp only[Value.slice.injEq,true_and] at oe;obtain⟨rfl,rfl⟩:=oe;have g2:=hI q3;clear hs hd e6 hO he a0 e5 q1 q2 q3 e4;have N:Below _ w (w.alloc (.cells #[(a1,x.san,c1),(a2,x.ldn,c2),(a3,x.bkn,c3)] 38)):=zk bZ _;have bO:=Jb w (.cells #[(a1,x.san,c1),(a2,x.ldn,c2),(a3,x.bkn,c3)] 38);go_enter func108,ntmps108;go_wp2_with fail;generalize w.alloc _=V at N bO ⊢;refine(cloneLoad a2 _ c2 _ V n7 (by unfold zdZ;simp) (ldRow_one (λi W=>by obtain⟨a1,c1,a2,c2,a3,c3,e1,e2,e3⟩:=u.ld.forms W;exact⟨a1,_,c1,a2,_,c2,a3,_,c3,e1,e2,e3⟩)) ((zdz u.ld.row).below N) g2).mono ?_
 rintro e V1 ⟨⟨gv,rfl,ho⟩,a9⟩;obtain⟨ga,gc,rfl,_,_,_⟩:=zp ho;have m:=ze N a9;have J:=zb bO a9;have H:Hid (qC V1 _ _ _ _ A B D):=⟨zu ho (Jp d8 N.size),λi W=>zo m (u.ld.st i W),λi W=>zo m (u.ld.ro i W),λi W=>zo m (u.ld.se i W),u.ld.far⟩
 have n:=hI (zav.start g1 (λv hv=>(d5 v hv).1))
 have b8:=hI ho;have i9:=N.size;clear ho a9 N bO;go_wp2;have d0:Hid (∀ z,_->qB z a1 _ _):=λz d=>(u.sa.below d).at
 have e8:Hid (∀ b,_->w.heap.size<=b):=λb e=>by have h1:=b8.lt b e;omega
 go_loopw [7,8,9,15] (λ_ _ _ q wr=>∃ (j:Nat) (M:_) (A B D:_),j<=G.length/\q=int i64 j/\Hid (zav x G j M)/\Hid (qC wr base (ga,x.ldn,gc) x.ldn M A B D)/\wr.heap[w.heap.size]?=some (.cells #[(a1,x.san,c1),(a2,x.ldn,c2),(a3,x.bkn,c3)] 38 (0,0))/\Below w.heap.size w wr) (λ_ _ _ q _=>G.length - (intOf q).toNat)
 case atStart=>exact⟨0,_,A,B,D,Jq _,rfl,n,H,J,m⟩
 case round =>
  clear n H u J m b8 A B D;obtain⟨j,M,A,B,D,hj,rfl,n,H,J,m⟩:=hrel
  by_cases hlt:j<G.length
  ·obtain⟨v,hv⟩:∃ v,_=some v:=⟨_,List.getElem?_eq_getElem hlt⟩
   have HV:=hI hv;have R:=hI (d5 v (List.mem_of_getElem? hv)).2;obtain⟨k,b5⟩:∃ k,k=zW x.sa v.leg x.san:=⟨_,rfl⟩;have HK:=hI b5.symm;have hk:k<x.san:=by rw[b5];exact R.2.1
   clear b5;obtain⟨gw,i5,i7,d9⟩:=qh d4 (by omega)
   subst i5;have f:∀ r,r<10->wr.cell? ⟨gw,j*10+r,_⟩=_:=λr hr=>by
    rw[m.cell d9,d4.out.cellAt _ (by omega),zmN G j v hv r hr]
   have c0:wr.cell? ⟨gw,j*10,_⟩=some _:=f 0 (by decide)
   have c1:wr.cell? _=some _:=f 1 (by decide)
   have c2:wr.cell? _=some _:=f 2 (by decide)
   have c3:wr.cell? _=some _:=f 3 (by decide)
   have c4:wr.cell? _=some _:=f 4 (by decide)
   have c5:wr.cell? _=some _:=f 5 (by decide)
   have c6:wr.cell? _=some _:=f 6 (by decide)
   have c7:wr.cell? _=some _:=f 7 (by decide)
   have c8:wr.cell? _=some _:=f 8 (by decide)
   have c9:wr.cell? _=some _:=f 9 (by decide)
   clear f hv;have bX:=Jb wr (.cells #[v.leg,(v.res:Int),v.who,v.p.pe,v.p.len,v.p.hei,v.p.cl,v.p.all,v.p.be,v.goes] 268);have o:=zk m (.cells #[v.leg,(v.res:Int),v.who,v.p.pe,v.p.len,v.p.hei,v.p.cl,v.p.all,v.p.be,v.goes] 268);have y:=zd J (.cells #[v.leg,(v.res:Int),v.who,v.p.pe,v.p.len,v.p.hei,v.p.cl,v.p.all,v.p.be,v.goes] 268);have c:Hid (qC (wr.alloc (.cells #[v.leg,(v.res:Int),v.who,v.p.pe,v.p.len,v.p.hei,v.p.cl,v.p.all,v.p.be,v.goes] 268)) _ _ _ M A B D):=H.below (zk bZ _);go_upto_region 5 with fail;generalize wr.alloc _=Y at bX o y c ⊢;generalize hwx:wr.heap.size=wx at bX ⊢;have i8:w.heap.size<wx:=by have:=zM J;omega
   clear c0 c1 c2 c3 c4 c5 c6 c7 c8 c9 m J H hwx wr;have y0:=za y 0 _ rfl;have y1:=za bX 0 _ rfl;go_wp2_with fail;clear y0 y1;refine(zaF a1 _ c1 _ _ Y n8 (d0 Y o)).mono ?_;rintro e Z ⟨a4,T⟩;replace a4:e=.returned (.tuple #[(k:Int),.bool true]):=by
    rw[HK.out] at a4
    rcases a4 with⟨_,q⟩|⟨q,_⟩
    ·exact q
    ·omega
   subst a4;replace bX:=zb bX T;replace o:=ze o T;replace y:=zb y T;replace c:=hI (c.below T);clear T Y;have b6:k<x.ldn:=by have:=f9.out;omega
   obtain⟨g,i6,j0,j1⟩:=qh c.row (by omega)
   subst i6;have b4:=e8 g rfl;obtain⟨sb,so,g5,h4,g4,h0,rfl,f0,f1,f2,f3,f4,f5,f6,f7,b7,b0,_,_⟩:=d0 Z o k hk;obtain⟨s,a5⟩:∃ s,s=x.sa k:=⟨_,rfl⟩;rw[← a5] at f0 f1 f2 f3 f4 f5 f6 f7 b7 b0;have a7:=hI a5;have f8:=hI b7;have e7:=hI b0;have g3:Hid (s.la.n<=1048576/\s.ca.n<=1048576):=by rw[a5];exact⟨(HS.1.2 k hk).2.2.1,(HS.1.2 k hk).2.2.2⟩
   obtain⟨l,Q⟩:∃ l,l=M k:=⟨_,rfl⟩;have t:=hI Q;obtain⟨g8,h7,g6,h5,g7,h6,e1,e2,e3⟩:=c.forms b6;have X:=c.is b6;have l0:=zs c.row (k*3+0) (by omega) rfl
   have l1:=zs c.row (k*3+1) (by omega) rfl
   have F:=zs c.row (k*3+2) (by omega) rfl
   rw[zC 3 _ k _ (by decide)] at l0 l1 F
   unfold ldC at l0 l1 F X;rw[e1,e2,e3] at X;replace l0:Z.cell? ⟨g,k*3,_⟩=some (A k):=l0;replace l1:_=some (B k):=l1;replace F:_=some (D k):=F;rw[e1,← Q] at l0;rw[e2,← Q] at l1;rw[e3,← Q] at F;rw[← Q] at X e1 e2 e3;have e9:=hI X;have a6:Hid (_/\_/\_):=⟨e1,e2,e3⟩;clear a5 Q X e1 e2 e3 b7 b0;have i0:(0:Int)<=(k:Int):=by omega
   have i1:(k:Int)<(x.san:Int):=by omega
   have i2:(k:Int)<(x.ldn:Int):=by omega
   have y0:=za y 0 _ rfl;obtain⟨x0,x1,x2,x3,x4,x5,x6,x7,x8,x9⟩:=ce10 bX;have a8:Hid (∀ z,Below _ Z z->z.cell? _=some (.int _ _)/\z.cell? _=some (.int _ _)/\z.cell? _=some (.int _ _)/\z.cell? _=some (.int _ _)/\z.cell? _=some (.int _ _)/\z.cell? _=some (.int _ _)/\z.cell? _=some (.int _ _)/\z.cell? _=some (.bool _)/\z.cell? _=some (.int _ _)/\z.cell? _=some (.bool _)/\z.cell? _=some (.slice _ _ c1)/\_/\_/\_/\_/\_/\_/\_/\_/\_/\_/\_):=λz d=>⟨(d.cell (Ja Z _ x0)).trans x0,(d.cell (Ja Z _ x1)).trans x1,(d.cell (Ja Z _ x2)).trans x2,(d.cell (Ja Z _ x3)).trans x3,(d.cell (Ja Z _ x4)).trans x4,(d.cell (Ja Z _ x5)).trans x5,(d.cell (Ja Z _ x6)).trans x6,(d.cell (Ja Z _ x7)).trans x7,(d.cell (Ja Z _ x8)).trans x8,(d.cell (Ja Z _ x9)).trans x9,(d.cell (Ja Z _ y0)).trans y0,(d.cell (Ja Z _ f0)).trans f0,(d.cell (Ja Z _ f1)).trans f1,(d.cell (Ja Z _ f2)).trans f2,(d.cell (Ja Z _ f3)).trans f3,(d.cell (Ja Z _ f4)).trans f4,(d.cell (Ja Z _ f5)).trans f5,(d.cell (Ja Z _ f6)).trans f6,(d.cell (Ja Z _ f7)).trans f7,(d.cell (Ja Z _ l0)).trans l0,(d.cell (Ja Z _ l1)).trans l1,(d.cell (Ja Z _ F)).trans F⟩
   clear y0 x0 x1 x2 x3 x4 x5 x6 x7 x8 x9 f0 f1 f2 f3 f4 f5 f6 f7 l0 l1 F;go_upto_region 6 with fail;refine qg 14 15 (λw'=>w'.cell? _=_/\w'.cell? _=_/\w'.cell? _=_/\w'.cell? _=_/\w'.cell? _=_/\w'.cell? _=_/\w'.cell? _=_/\w'.cell? _=_/\w'.cell? _=_/\w'.cell? _=_/\w'.cell? _=_/\w'.cell? _=_/\w'.cell? _=_/\w'.cell? _=_/\w'.cell? _=_/\w'.cell? _=_/\w'.cell? _=_/\w'.cell? _=_/\w'.cell? _=_/\w'.cell? _=_/\w'.cell? _=_/\w'.cell? _=_) rfl (by kernel_rfl) (a8 _ bZ.drew) (λhS=>?_)
   simp only[List.replicate_succ,List.replicate_zero]
   iterate 12 (refine tFL 0 (v:=?_) rfl (by kernel_rfl) (λ_ _ _ h=>h) rfl (by assumption) ?_ ?_;rotate_left;(focus(intro w' h;(try dsimp only at h);go_simp;try with_reducible rfl));simp only[Act.put,sB,sZ,sS])
   refine zj (rs:=[12]) (by kernel_rfl) (by simp) ?_
   refine zc.consL rfl (λK hK=>?_) zc.nil
   go_simp;go_at_call 199;have P:Below Z.heap.size Z _:=bZ.drew;refine Jm (done_any s v l g5 g4 g8 g6 g7 h4 h0 h7 h5 h6 pe _ (HE.below (ze o P)) (by rw[a7.out,t.out];exact n.good k hk) R.1 R.2.2 ?_ g3 (f8.below P) (e7.below P) (e9.below P)) ?_
   ·rw[t.out]
    split
    ·rename_i hg;exact n.there HV HK hk hg
    ·rename_i hg;exact(n.comes HV HK hk R (by simpa using hg)).2.2.2
   rintro e U ⟨d7,i4⟩;have O:=ze P i4
   rcases d7 with⟨F,b1,d1,b2,d2,b3,d3,rfl,hW,d6⟩|⟨cd,h1,h8,rfl,hW⟩
   ·dsimp only
    have I:=hI (c.below O);have b9:=hI (I.put3 b6 (by rw[← t.out];exact a6.1) (by rw[← t.out];exact a6.2.1) (by rw[← t.out];exact a6.2.2) (λi W=>⟨λb e=>((c.st i W).lt b e).2,λb e=>((c.ro i W).lt b e).2,λb e=>((c.se i W).lt b e).2⟩) (Jp d8 (ze o P).size) (by rw[← t.out];exact d6))
    have g0:=hI (n.next HD HV HK hk R (by rw[← a7.out,← t.out];exact hW))
    have e0:zx U (((U.setCell _ (b1,F.stn,d1)).setCell _ (b2,F.ron,d2)).setCell _ (b3,F.sen,d3)) _:=(((zx.refl U (λb=>b=g)).set (a:=(g,k*3)) rfl _).set (a:=(g,k*3+1)) rfl _).set (a:=(g,k*3+2)) rfl _
    have g9:=e0.blk (zb y O) (show _ from λe=>by obtain⟨cs,e2⟩:=zA I.row g rfl;rw[← e,zb y O] at e2;simp at e2)
    have i3:Below _ w (((U.setCell _ (b1,F.stn,d1)).setCell _ (b2,F.ron,d2)).setCell _ (b3,F.sen,d3)):=(((ze o O).setCell (p:=(g,k*3)) b4 _).setCell (p:=(g,k*3+1)) b4 _).setCell (p:=(g,k*3+2)) b4 _;have S:=a8 U O;have z0:=S.2.2.2.2.2.2.2.2.2.2.2.2.2.2.2.2.2.2.2.1;have z1:=S.2.2.2.2.2.2.2.2.2.2.2.2.2.2.2.2.2.2.2.2.1;have z2:=S.2.2.2.2.2.2.2.2.2.2.2.2.2.2.2.2.2.2.2.2.2;have q0:=I.row.frozenAt (k*3);have q1:=I.row.frozenAt (k*3+1);have q2:=I.row.frozenAt (k*3+2);refine hK _ _ S (λhS=>?_)
    clear hK K S;simp only[sZ,sS]
    (refine tFL 13 (v:=?_) rfl (by kernel_rfl) (λ_ _ _ h=>h) rfl (by assumption) ?_ ?_;rotate_left;(focus(intro w' h;(try dsimp only at h);go_simp;try with_reducible rfl));simp only[Act.put,sB,sZ,sS])
    refine zj (rs:=[14]) (by kernel_rfl) (by simp) ?_
    refine zc.lastL rfl (λK hK=>?_)
    go_simp;refine hK _ _ ?_;clear hK K e0 c I a8 hS z0 z1 z2 q0 q1 q2 hW d6;refine zX (by kernel_rfl) ?_ _
    go_wp2;go_roundw
    case rel=>exact⟨_,_,_,_,_,by omega,by go_num,g0,b9,g9,i3⟩
    case measure=>simp[intOf];omega
   ·unfold zmK
    dsimp only;exact⟨rfl,.inr ⟨j,M,v,k,cd,rfl,h1,h8,n,HV,HK,hk,by rw[← a7.out,← t.out];exact hW⟩,ze o O⟩
  ·obtain rfl:j=G.length:=by omega
   go_wp2;go_ret;exact⟨.inl ⟨M,ga,gc,A,B,D,rfl,n,H⟩,m⟩
end
theorem znV (x y:Int)(w:World) :
  Calls prog 225 #[x,y] w λe w'=>e=.returned (Ql x y)/\w'=w:=by
 obtain⟨V,f⟩:∃ V,V=Ql x y:=⟨_,rfl⟩;rw[← f];have b:=hI f;clear f
 by_cases h0:zbA x y
 ·have j:=Jd h0
  have c:=hI h0;have i:=hI h0.1;clear h0
  by_cases h1:600<x
  ·have k:=Jd h1
   have h2:450<x:=by omega
   have g:=Jd h2;have h:=i.out;unfold In at h;have l:IntKind.i64.wrap (x - 600)=x - 600:=by rw[Jk];omega
   have m:IntKind.i64.wrap (x - 600+99)=x - 600+99:=by rw[Jk];omega
   have hq:Int.tdiv (x - 600+99) 100=(x - 600+99) / 100:=by rw[Int.tdiv_eq_ediv_of_nonneg (by omega)]
   have n:IntKind.i64.wrap ((x - 600+99) / 100)=(x - 600+99) / 100:=by rw[Jk];omega
   have o:IntKind.i64.wrap (25*((x - 600+99) / 100))=25*((x - 600+99) / 100):=by rw[Jk];omega
   have p:IntKind.i64.wrap (90+25*((x - 600+99) / 100))=90+25*((x - 600+99) / 100):=by rw[Jk];omega
   have q:IntKind.i64.wrap (90+25*((x - 600+99) / 100)+30)=90+25*((x - 600+99) / 100)+30:=by rw[Jk];omega
   clear h
   by_cases h5:220<y
   ·have d:=Jd h5
    have a:Hid (V=90+25*((x - 600+99) / 100)+30):=by show V=_;rw[b.out];unfold Ql;rw[Jf c.out];simp only[Jf h1,Jf h5];(try omega)
    rw[a.out];go_enter func225,ntmps225;go_wp2_with (first|(go_at_call 224;refine sC (Zc _ _ _) ?_))
    go_ret;exact⟨rfl,rfl⟩
   ·have d:=Jc h5
    have a:Hid (V=90+25*((x - 600+99) / 100)):=by show V=_;rw[b.out];unfold Ql;rw[Jf c.out];simp only[Jf h1,Je h5];(try omega)
    rw[a.out];go_enter func225,ntmps225;go_wp2_with (first|(go_at_call 224;refine sC (Zc _ _ _) ?_))
    go_ret;exact⟨rfl,rfl⟩
  ·have k:=Jc h1
   by_cases h2:450<x
   ·have g:=Jd h2
    by_cases h5:220<y
    ·have d:=Jd h5
     have a:Hid (V=90+30):=by show V=_;rw[b.out];unfold Ql;rw[Jf c.out];simp only[Je h1,Jf h2,Jf h5];(try omega)
     rw[a.out];go_enter func225,ntmps225;go_wp2_with (first|(go_at_call 224;refine sC (Zc _ _ _) ?_))
     go_ret;exact⟨rfl,rfl⟩
    ·have d:=Jc h5
     have a:Hid (V=90):=by show V=90;rw[b.out];unfold Ql;rw[Jf c.out];simp only[Je h1,Jf h2,Je h5];(try omega)
     rw[a.out];go_enter func225,ntmps225;go_wp2_with (first|(go_at_call 224;refine sC (Zc _ _ _) ?_))
     go_ret;exact⟨rfl,rfl⟩
   ·have g:=Jc h2
    by_cases h5:220<y
    ·have d:=Jd h5
     have a:Hid (V=60+30):=by show V=_;rw[b.out];unfold Ql;rw[Jf c.out];simp only[Je h1,Je h2,Jf h5];(try omega)
     rw[a.out];go_enter func225,ntmps225;go_wp2_with (first|(go_at_call 224;refine sC (Zc _ _ _) ?_))
     go_ret;exact⟨rfl,rfl⟩
    ·have d:=Jc h5
     have a:Hid (V=60):=by show V=60;rw[b.out];unfold Ql;rw[Jf c.out];simp only[Je h1,Je h2,Je h5];(try omega)
     rw[a.out];go_enter func225,ntmps225;go_wp2_with (first|(go_at_call 224;refine sC (Zc _ _ _) ?_))
     go_ret;exact⟨rfl,rfl⟩
 ·have j:=Jc h0
  have a:Hid (V=0):=by rw[b.out];exact Je h0
  rw[a.out];clear h0;go_enter func225,ntmps225;go_wp2_with (first|(go_at_call 224;refine sC (Zc _ _ _) ?_))
  go_ret;exact⟨rfl,rfl⟩
end Go.Proofs.YtmdnjgihooflfaaGreatDoor
