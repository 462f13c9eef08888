/-
  OWN TEXT: CopyS, CopyOf, ConcatW, WorksI, BehindI, SpecFd, SpecFe.
-/
import Derived.Deep.RegionWith
import Derived.Deep.RegionHeld3
import Derived.Deep.DeepCutAuto
import Derived.Deep.LoopGhost
import Derived.Lib.AppendZeros
import Derived.Deep.CutBlock
import Derived.Test.YtmdnjgihooflfaaGreatDoorB25
namespace Go.Proofs.YtmdnjgihooflfaaGreatDoor
open Go.RowKit
open Go.Value (int)
open Go.IntKind (i64)
set_option maxHeartbeats 64000000
set_option maxRecDepth 100000
theorem box_5 {w:World}{g t:Nat}{u0 u1 u2 u3 u4 u5 u6 u7:Value}(h:w.heap[g]?=some (.cells #[u0,u1,u2,u3,u4,u5,u6,u7] t (0,0)))(v:Value):(w.setCell ⟨g,5,none⟩ v).heap[g]?=some (.cells #[u0,u1,u2,u3,u4,v,u6,u7] t (0,0)):=by simpa using zm h 5 v
theorem box_6 {w:World}{g t:Nat}{u0 u1 u2 u3 u4 u5 u6 u7:Value}(h:w.heap[g]?=some (.cells #[u0,u1,u2,u3,u4,u5,u6,u7] t (0,0)))(v:Value):(w.setCell ⟨g,6,none⟩ v).heap[g]?=some (.cells #[u0,u1,u2,u3,u4,u5,v,u7] t (0,0)):=by simpa using zm h 6 v
theorem zdY {w:World}{base e size n g o:Nat}{v v0 v1 v2 v3 v4 v5 v6 v7:Value}{c:List Value}(h:w.ownsRow base e size v n c)(b:g<base):(zjz w g o v0 v1 v2 v3 v4 v5 v6 v7).ownsRow base e size v n c:=by
 unfold zjz;exact ZW (ZW (ZW (ZW (ZW (ZW (ZW (ZW h (a:=⟨g,o,none⟩) b _) (a:=⟨g,o+1,none⟩) b _) (a:=⟨g,o+2,none⟩) b _) (a:=⟨g,o+3,none⟩) b _) (a:=⟨g,o+4,none⟩) b _) (a:=⟨g,o+5,none⟩) b _) (a:=⟨g,o+6,none⟩) b _) (a:=⟨g,o+7,none⟩) b _
theorem zhk (s:Zj)(la ca:Option Addr)(j g:Nat)(w:World)(h1:s.la.n<=1048576)(h2:s.ca.n<=1048576)(D:zG w la s.la)(C:zG w ca s.ca)(G:qj la s.la.n j)(E:qj ca s.ca.n g) :
  Calls Tryz.prog 113 #[.agg #[int i64 s.id,.string s.fr,.string s.dst,int i64 s.dep,int i64 s.arr,.slice la s.la.n j,.slice ca s.ca.n g,int i64 s.most]] w fun e w' =>
   (∃ lv t,e=.returned (.agg #[int i64 s.id,.string s.fr,.string s.dst,int i64 s.dep,int i64 s.arr,lv,t,int i64 s.most])/\w'.ownsRow w.heap.size 223 2 lv s.la.n (qd s.la)/\w'.ownsRow w.heap.size 231 2 t s.ca.n (qd s.ca))/\Below w.heap.size w w':=by
 have A:Hid (zG w la s.la/\qj la s.la.n j):=⟨D,G⟩;have z:Hid (zG w ca s.ca/\qj ca s.ca.n g):=⟨C,E⟩;clear D C G E;have d:Below w.heap.size w ((w.alloc (.cells #[int i64 s.id,.string s.fr,.string s.dst,int i64 s.dep,int i64 s.arr,.slice la s.la.n j,.slice ca s.ca.n g,int i64 s.most] 140)).alloc (.cells #[int i64 0,.string ⟨#[]⟩,.string ⟨#[]⟩,int i64 0,int i64 0,.slice none 0 0,.slice none 0 0,int i64 0] 140)):=zk (zk bZ _) _;have r:((w.alloc (.cells #[int i64 s.id,.string s.fr,.string s.dst,int i64 s.dep,int i64 s.arr,.slice la s.la.n j,.slice ca s.ca.n g,int i64 s.most] 140)).alloc (.cells #[int i64 0,.string ⟨#[]⟩,.string ⟨#[]⟩,int i64 0,int i64 0,.slice none 0 0,.slice none 0 0,int i64 0] 140)).heap[w.heap.size]?=some (.cells #[int i64 s.id,.string s.fr,.string s.dst,int i64 s.dep,int i64 s.arr,.slice la s.la.n j,.slice ca s.ca.n g,int i64 s.most] 140 (0,0)):=zd (heap_alloc_new w _) _;have I:((w.alloc (.cells #[int i64 s.id,.string s.fr,.string s.dst,int i64 s.dep,int i64 s.arr,.slice la s.la.n j,.slice ca s.ca.n g,int i64 s.most] 140)).alloc (.cells #[int i64 0,.string ⟨#[]⟩,.string ⟨#[]⟩,int i64 0,int i64 0,.slice none 0 0,.slice none 0 0,int i64 0] 140)).heap[w.heap.size+1]?=some (.cells #[int i64 0,.string ⟨#[]⟩,.string ⟨#[]⟩,int i64 0,int i64 0,.slice none 0 0,.slice none 0 0,int i64 0] 140 (0,0)):=by simpa using heap_alloc_new (w.alloc _) _
 go_enter Tryz.func113,Tryz.ntmps113;go_upto_region 1 with fail;generalize (w.alloc (.cells #[int i64 s.id,.string s.fr,.string s.dst,int i64 s.dep,int i64 s.arr,.slice la s.la.n j,.slice ca s.ca.n g,int i64 s.most] 140)).alloc (.cells #[int i64 0,.string ⟨#[]⟩,.string ⟨#[]⟩,int i64 0,int i64 0,.slice none 0 0,.slice none 0 0,int i64 0] 140)=X at d r I ⊢;have L:Hid (∀ w',Below X.heap.size X w'->w'.heap[w.heap.size]?=some (.cells #[int i64 s.id,.string s.fr,.string s.dst,int i64 s.dep,int i64 s.arr,.slice la s.la.n j,.slice ca s.ca.n g,int i64 s.most] 140 (0,0))):=fun w' h=>zb r h
 have y:Hid (∀ w',Below X.heap.size X w'->Calls Tryz.prog 207 #[.slice la s.la.n j] w' fun e H=>(∃ a c,e=.returned (.slice a s.la.n c)/\H.ownsRow X.heap.size 223 2 (.slice a s.la.n c) s.la.n (qd s.la))/\Below w'.heap.size w' H):=fun w' h=>(cloneLane la j s.la w' h1 (A.out.1.below (ze d h)) A.out.2.2.2).mono fun _ _ ⟨⟨v,e,ho⟩,hb⟩=>by
  obtain⟨a,c,rfl,_⟩:=zp ho;exact⟨⟨a,c,e,zu ho h.size⟩,hb⟩
 have k:Hid (∀ w',Below X.heap.size X w'->Calls Tryz.prog 208 #[.slice ca s.ca.n g] w' fun e H=>(∃ a c,e=.returned (.slice a s.ca.n c)/\H.ownsRow X.heap.size 231 2 (.slice a s.ca.n c) s.ca.n (qd s.ca))/\Below w'.heap.size w' H):=fun w' h=>(znS ca g s.ca w' h2 (z.out.1.below (ze d h)) z.out.2.2.2).mono fun _ _ ⟨⟨v,e,ho⟩,hb⟩=>by
  obtain⟨a,c,rfl,_⟩:=zp ho;exact⟨⟨a,c,e,zu ho h.size⟩,hb⟩
 have s5:=za r 5 _ rfl;have s6:=za r 6 _ rfl;have T:=zM r;have l:w.heap.size<X.heap.size:=T;go_cut [1] (fun p J=>p=.pointer (some ⟨w.heap.size,0,none⟩)/\∃ lv t,J.heap[w.heap.size]?=some (.cells #[int i64 s.id,.string s.fr,.string s.dst,int i64 s.dep,int i64 s.arr,lv,t,int i64 s.most] 140 (0,0))/\J.ownsRow X.heap.size 223 2 lv s.la.n (qd s.la)/\J.ownsRow X.heap.size 231 2 t s.ca.n (qd s.ca)/\zx X J (fun b=>b=w.heap.size))
 case first =>
  go_region_with (first
   | (go_at_call 207;refine Calls.mono (y.out _ (by repeat(first | exact bZ | refine Below.drew ?_ | refine ze ?_ i | refine ze ?_ f))) ?_;rintro e Y ⟨⟨o,c4,rfl,U⟩,i⟩;have x:=L.out Y (by repeat(first | exact bZ | refine Below.drew ?_ | refine ze ?_ i | refine ze ?_ f));have o5:=za x 5 _ rfl;have o6:=za x 6 _ rfl;have f5:=zg x 5;have f6:=zg x 6)
   | (go_at_call 208;refine Calls.mono (k.out _ (by repeat(first | exact bZ | refine Below.drew ?_ | refine ze ?_ i | refine ze ?_ f))) ?_;rintro e Z ⟨⟨q,c5,rfl,V⟩,f⟩;have n:=L.out Z (by repeat(first | exact bZ | refine Below.drew ?_ | refine ze ?_ i | refine ze ?_ f));have p5:=za n 5 _ rfl;have p6:=za n 6 _ rfl;have g5:=zg n 5;have g6:=zg n 6))
  all_goals
   go_wp2;go_meet;exact⟨rfl,_,_,box_6 (box_5 n _) _,ZW (ZW (zo (w:=Y) (by repeat(first|exact bZ|refine Below.drew ?_|refine ze ?_ f)) U) (a:=⟨w.heap.size,5,none⟩) l _) (a:=⟨w.heap.size,6,none⟩) l _,ZW (ZW V (a:=⟨w.heap.size,5,none⟩) l _) (a:=⟨w.heap.size,6,none⟩) l _,
    ((zx.of_below (w:=X) (w':=Z) (S:=fun b=>b=w.heap.size) (by repeat(first|exact bZ|refine Below.drew ?_|refine ze ?_ i|refine ze ?_ f))).set (a:=⟨w.heap.size,5,none⟩) rfl _).set (a:=⟨w.heap.size,6,none⟩) rfl _⟩
 case rest =>
  obtain⟨rfl,lv,t,M,R,P,Q⟩:=hcut;obtain⟨o,c4,rfl,_⟩:=zp R;obtain⟨q,c5,rfl,_⟩:=zp P;have m:=Q.blk I (by show ¬ (w.heap.size+1=w.heap.size);omega)
  have O:Below w.heap.size w wc:=zx.below d d.size Q (fun b e=>by have e:b=w.heap.size:=e;omega)
  have W:w.heap.size+1<X.heap.size:=zM I;have HL:=hI R;have HC:=hI P;clear R P Q L y k s5 s6 r I;obtain⟨y0,y1,y2,y3,y4,y5,y6,y7⟩:=ce8 M;obtain⟨r0,r1,r2,r3,r4,r5,r6,r7⟩:=ce8 m;obtain⟨f0,f1,f2,f3,f4,f5,f6,f7⟩:=fe8 m;go_wp2;obtain⟨F,u⟩:∃ F,F=zjz wc (w.heap.size+1) 0 (int i64 s.id) (.string s.fr) (.string s.dst) (int i64 s.dep) (int i64 s.arr) (.slice o s.la.n c4) (.slice q s.ca.n c5) (int i64 s.most):=⟨_,rfl⟩;have rF:F.heap[w.heap.size+1]?=some (.cells #[int i64 s.id,.string s.fr,.string s.dst,int i64 s.dep,int i64 s.arr,.slice o s.la.n c4,.slice q s.ca.n c5,int i64 s.most] 140 (0,0)):=by rw[u];exact zmy m
  have K:F.ownsRow w.heap.size 223 2 (.slice o s.la.n c4) s.la.n (qd s.la):=by rw[u];exact zu (zdY HL.out W) d.size
  have k:F.ownsRow w.heap.size 231 2 (.slice q s.ca.n c5) s.ca.n (qd s.ca):=by rw[u];exact zu (zdY HC.out W) d.size
  have N:Below w.heap.size w F:=by rw[u];exact zfa O (by omega)
  have B:F=((((((((wc.setCell ⟨w.heap.size+1,0,none⟩ (int i64 s.id)).setCell ⟨w.heap.size+1,1,none⟩ (.string s.fr)).setCell ⟨w.heap.size+1,2,none⟩ (.string s.dst)).setCell ⟨w.heap.size+1,3,none⟩ (int i64 s.dep)).setCell ⟨w.heap.size+1,4,none⟩ (int i64 s.arr)).setCell ⟨w.heap.size+1,5,none⟩ (.slice o s.la.n c4)).setCell ⟨w.heap.size+1,6,none⟩ (.slice q s.ca.n c5)).setCell ⟨w.heap.size+1,7,none⟩ (int i64 s.most)):=u;rw[← B];clear u B;obtain⟨z0,z1,z2,z3,x,n,z6,z7⟩:=ce8 rF;exact bodyPost_ret (v:=.agg #[int i64 s.id,.string s.fr,.string s.dst,int i64 s.dep,int i64 s.arr,.slice o s.la.n c4,.slice q s.ca.n c5,int i64 s.most]) (by simp[results,Tryz.results113,go_sem,z0,z1,z2,z3,x,n,z6,z7]) rfl ⟨⟨_,_,rfl,K,k⟩,N⟩
structure zeP (w:World)(base g k N:Nat)(S:Nat->Zj)(L C:Nat->Value):Prop where
 row:w.rowIs g 140 (N*8) (qz (zbJ k S Zj.zero) (zbJ k L (.slice none 0 0)) (zbJ k C (.slice none 0 0)))
 gb:base<=g
 la:∀ i,i<k->w.ownsRow (g+1) 223 2 (L i) (S i).la.n (qd (S i).la)
 ca:∀ i,i<k->w.ownsRow (g+1) 231 2 (C i) (S i).ca.n (qd (S i).ca)
 apart:∀ i j,i<j->j<k->(∀ b,(L i).ownBlock=some b->(L j).ownBlock≠some b)/\(∀ b,(C i).ownBlock=some b->(C j).ownBlock≠some b)
theorem zeP.below {w w':World}{base g k N:Nat}{S:Nat->Zj}{L C:Nat->Value}(h:zeP w base g k N S L C)(a:Below w.heap.size w w'):zeP w' base g k N S L C :=
 ⟨qo h.row a,h.gb,fun i b=>zo a (h.la i b),fun i b=>zo a (h.ca i b),h.apart⟩
theorem zeP.own {w:World}{base g N:Nat}{S:Nat->Zj}{L C:Nat->Value}(h:zeP w base g N N S L C)(c:N<=maxLen):qM w base (.slice (some ⟨g,0,none⟩) N N) N S L C:=by
 refine⟨?_,fun i b=>zu (h.la i b) (Nat.le_succ_of_le h.gb),fun i b=>zu (h.ca i b) (Nat.le_succ_of_le h.gb),h.apart⟩
 refine qR (Zz h.row h.gb c) (fun j hj=>?_)
 have a:j / 8<N:=by omega
 unfold qz;rw[qr _ _ a,qr _ _ a,qr _ _ a]
theorem zeP.step {w n:World}{base g k N:Nat}{S:Nat->Zj}{L C:Nat->Value}{lv m:Value}(h:zeP w base g k N S L C)(q:Below w.heap.size w n)(hk:k<N)
  (p:n.ownsRow w.heap.size 223 2 lv (S k).la.n (qd (S k).la)) (o:n.ownsRow w.heap.size 231 2 m (S k).ca.n (qd (S k).ca)) :
  zeP (zjz n g (k*8) (int i64 (S k).id) (.string (S k).fr) (.string (S k).dst) (int i64 (S k).dep) (int i64 (S k).arr) lv m (int i64 (S k).most)) base g (k+1) N S (atV L k lv) (atV C k m):=by
 have hg:g<w.heap.size:=h.row.lt;have h2:=h.below q;refine⟨?_,h.gb,fun i f=>?_,fun i f=>?_,fun i j d hj=>?_⟩
 ·have l:=zmz (k:=k) (S':=zbJ (k+1) S Zj.zero) (ls':=zbJ (k+1) (atV L k lv) (.slice none 0 0)) (cs':=zbJ (k+1) (atV C k m) (.slice none 0 0)) h2.row (fun i f=>?_) (fun i f=>?_) (fun i f=>?_)
  ·rw[qr _ _ (by omega),qr _ _ (by omega),qr _ _ (by omega),qu,qu] at l
   exact l
  all_goals
   unfold zbJ
   by_cases c:i<k
   ·rw[if_pos c,if_pos (by omega)]
    try rw[qf _ _ _ _ f]
   ·rw[if_neg c,if_neg (by omega)]
 ·by_cases e:i=k
  ·subst e;rw[qu];exact zdY (zu p (by omega)) (by omega)
  ·rw[qf _ _ _ _ e];exact zdY (h2.la i (by omega)) (by omega)
 ·by_cases e:i=k
  ·subst e;rw[qu];exact zdY (zu o (by omega)) (by omega)
  ·rw[qf _ _ _ _ e];exact zdY (h2.ca i (by omega)) (by omega)
 ·by_cases e:j=k
  ·subst e
   rw[qu,qu,qf _ _ _ _ (by omega),qf _ _ _ _ (by omega)]
   refine⟨fun b h1 h3=>?_,fun b h1 h3=>?_⟩
   ·have a:=((h.la i d).lt b h1).2
    have c:=(p.lt b h3).1
    omega
   ·have a:=((h.ca i d).lt b h1).2
    have c:=(o.lt b h3).1
    omega
  ·rw[qf _ _ _ _ e,qf _ _ _ _ e,qf _ _ _ _ (by omega),qf _ _ _ _ (by omega)]
   exact h.apart i j d (by omega)
theorem zkT (O:Option Addr)(N c:Nat)(S:Nat->Zj)(w:World)(hN:N<=1048576)(X:QL N S 1048576)(Y:qB w O N S) :
  Calls Tryz.prog 112 #[.slice O N c,.func (.func 113) #[] #[]] w fun e w'=>(∃ g L C,e=.returned (.slice (some ⟨g,0,none⟩) N N)/\qM w' w.heap.size (.slice (some ⟨g,0,none⟩) N N) N S L C)/\Below w.heap.size w w':=by
 obtain⟨i0,H,J,K,M⟩:=info_parts Tryz.infoSailing;have HS:=hI X;have HZ:=hI Y;clear X Y;go_enter Tryz.func112,Tryz.ntmps112;go_wp2_with (first|(at_make;refine wpList_make_full _ rfl _ _ 34 rfl w.heap.size 140 i0 _ 8 Tryz.underlying34 H J K .i64 .i64 _ _ N rfl rfl rfl rfl (by rw[M];omega) (by unfold maxLen;omega) (Nat.le_refl _) ?_;intro w1 l f))
 go_loopw [6,7,13] (fun _ _ i wr=>∃ (k:Nat) (L C:Nat->Value),k<=N/\i=int i64 k/\zeP wr w.heap.size w.heap.size k N S L C/\Below w.heap.size w wr) (fun _ _ i _=>N - (intOf i).toNat)
 case atStart=>exact⟨0,fun _=>.slice none 0 0,fun _=>.slice none 0 0,Nat.zero_le _,rfl,⟨(ZP l).congr (fun j V=>zhL N j V),Nat.le_refl _,fun i H=>by omega,fun i H=>by omega,fun i j _ V=>by omega⟩,bZ.grown f (Nat.le_refl _) (by simp)⟩
 case round =>
  obtain⟨k,L,C,hk,rfl,m,a⟩:=hrel;clear l f
  by_cases hlt:k<N
  ·obtain⟨b,off,la,u,ca,t,rfl,P,h1,h2,h3,Q,R,T,U,h8,h9,y,z⟩:=HZ.out k hlt
   have q:=World.block_lt_of_cell? w _ h1;have c0:=(a.cell (p:=⟨b,off+k*8,none⟩) q).trans P;have c1:=(a.cell (p:=⟨b,off+k*8+1,none⟩) q).trans h1;have c2:=(a.cell (p:=⟨b,off+k*8+2,none⟩) q).trans h2;have c3:=(a.cell (p:=⟨b,off+k*8+3,none⟩) q).trans h3;have c4:=(a.cell (p:=⟨b,off+k*8+4,none⟩) q).trans Q;have c5:=(a.cell (p:=⟨b,off+k*8+5,none⟩) q).trans R;have c6:=(a.cell (p:=⟨b,off+k*8+6,none⟩) q).trans T;have c7:=(a.cell (p:=⟨b,off+k*8+7,none⟩) q).trans U;obtain⟨_,_,s3,s4⟩:=HS.out k hlt;have x:Hid (zG w la (S k).la/\qj la (S k).la.n u):=⟨h8,y⟩;have v:Hid (zG w ca (S k).ca/\qj ca (S k).ca.n t):=⟨h9,z⟩;have h:=zk a (.cells #[int i64 (S k).id,.string (S k).fr,.string (S k).dst,int i64 (S k).dep,int i64 (S k).arr,.slice la (S k).la.n u,.slice ca (S k).ca.n t,int i64 (S k).most] 140);have o:=m.below (zk (Below.refl _ wr) (.cells #[int i64 (S k).id,.string (S k).fr,.string (S k).dst,int i64 (S k).dep,int i64 (S k).arr,.slice la (S k).la.n u,.slice ca (S k).ca.n t,int i64 (S k).most] 140));have r:=heap_alloc_new wr (.cells #[int i64 (S k).id,.string (S k).fr,.string (S k).dst,int i64 (S k).dep,int i64 (S k).arr,.slice la (S k).la.n u,.slice ca (S k).ca.n t,int i64 (S k).most] 140);clear P h1 h2 h3 Q R T U h8 h9 y z m;go_wp2_with fail;generalize wr.alloc (.cells #[int i64 (S k).id,.string (S k).fr,.string (S k).dst,int i64 (S k).dep,int i64 (S k).arr,.slice la (S k).la.n u,.slice ca (S k).ca.n t,int i64 (S k).most] 140)=W at h o r ⊢;clear c0 c1 c2 c3 c4 c5 c6 c7 a r;refine(zhk (S k) la ca u t _ s3 s4 (x.out.1.below h) (v.out.1.below h) x.out.2 v.out.2).mono ?_;rintro e w2 ⟨⟨lv,cv,rfl,I,G⟩,n⟩;have A:=o.step n hlt I G;have d:=o.below n;obtain⟨al,cl,rfl,_⟩:=zp I;obtain⟨ac,F,rfl,_⟩:=zp G;have o0:=d.row.cell (i:=k*8) (by omega)
   have f0:=d.row.frozen (k*8);have o1:=d.row.cell (i:=k*8+1) (by omega)
   have f1:=d.row.frozen (k*8+1);have o2:=d.row.cell (i:=k*8+2) (by omega)
   have f2:=d.row.frozen (k*8+2);have o3:=d.row.cell (i:=k*8+3) (by omega)
   have f3:=d.row.frozen (k*8+3);have o4:=d.row.cell (i:=k*8+4) (by omega)
   have f4:=d.row.frozen (k*8+4);have o5:=d.row.cell (i:=k*8+5) (by omega)
   have f5:=d.row.frozen (k*8+5);have o6:=d.row.cell (i:=k*8+6) (by omega)
   have f6:=d.row.frozen (k*8+6);have o7:=d.row.cell (i:=k*8+7) (by omega)
   have f7:=d.row.frozen (k*8+7);have E:=hI A;have D:Hid (Below w.heap.size w (zjz w2 w.heap.size (k*8) (int i64 (S k).id) (.string (S k).fr) (.string (S k).dst) (int i64 (S k).dep) (int i64 (S k).arr) (.slice al (S k).la.n cl) (.slice ac (S k).ca.n F) (int i64 (S k).most))):=zfa (ze h n) (Nat.le_refl _);clear A o d I G h n;go_wp2;go_roundw
   case rel =>
    have B:=E.out;have s:=D.out;unfold zjz at B s;exact⟨k+1,_,_,by omega,by go_num,B,s⟩
   case measure=>simp[intOf];omega
  ·obtain rfl:k=N:=by omega
   have Z:Hid _:=m.own (by unfold maxLen;omega)
   go_wp2;go_ret;exact⟨⟨_,L,C,rfl,Z.out⟩,a⟩
section
open Go.RowKit
structure COf (w u:World)(m h:Nat)(x:Off)(c b a:Option Addr)(f e d:Nat)(j k l:Option Nat):Prop where
 bel:Below w.heap.size w u
 rl:w.heap.size<=h
 src:Off.Is w [.slice c x.san f,.slice b x.ldn e,.slice a x.bkn d] x
 sh:Off.Short x 1048576
 lg:∀ i,i<x.bkn->0<(x.bk i).lgn
 box:u.heap[m]?=some (.cells #[.slice c x.san f,.slice b x.ldn e,.slice a x.bkn d] 38 (0,0))
 res:u.heap[h]?=some (.cells #[.slice none 0 0,.slice none 0 0,.slice none 0 0] 38 (0,0))
 h1:∀ g,j=some g->∃ L C,qM u w.heap.size (.slice (some ⟨g,0,none⟩) x.san x.san) x.san x.sa L C
 h2:∀ g,k=some g->∃ A B D,qC u w.heap.size (.slice (some ⟨g,0,none⟩) x.ldn x.ldn) x.ldn x.ld A B D
 h3:∀ g,l=some g->∃ E,ZC u w.heap.size (.slice (some ⟨g,0,none⟩) x.bkn x.bkn) x.bkn x.bk E
section
variable {w u : World} {xb rb : Nat} {x : Off} {asa ald abk : Option Addr} {csa cld cbk : Nat} {p1 p2 p3 : Option Nat}
theorem COf.s (h:COf w u xb rb x asa ald abk csa cld cbk p1 p2 p3):u.cell? ⟨xb,0,none⟩=some (.slice asa x.san csa)/\u.cell? ⟨xb,1,none⟩=some (.slice ald x.ldn cld)/\u.cell? ⟨xb,2,none⟩=some (.slice abk x.bkn cbk):=⟨za h.box 0 _ rfl,za h.box 1 _ rfl,za h.box 2 _ rfl⟩
theorem COf.below {b:World}(h:COf w u xb rb x asa ald abk csa cld cbk p1 p2 p3)(a:Below u.heap.size u b):COf w b xb rb x asa ald abk csa cld cbk p1 p2 p3:=⟨ze h.bel a,h.rl,h.src,h.sh,h.lg,zb h.box a,zb h.res a,fun g e=>(by obtain⟨L,C,k⟩:=h.h1 g e;exact⟨L,C,k.below a⟩),fun g e=>(by obtain⟨A,B,D,k⟩:=h.h2 g e;exact⟨A,B,D,k.below a⟩),fun g e=>(by obtain⟨E,k⟩:=h.h3 g e;exact⟨E,k.below a⟩)⟩
theorem COf.c1 (h:COf w u xb rb x asa ald abk csa cld cbk none p2 p3):Calls Tryz.prog 112 #[.slice asa x.san csa,.func (.func 113) #[] #[]] u fun e c=>∃ g,e=.returned (.slice (some ⟨g,0,none⟩) x.san x.san)/\Hid (COf w c xb rb x asa ald abk csa cld cbk (some g) p2 p3):=by
 obtain⟨_,_,_,_,_,_,a,b,_,i,_,f,_⟩:=h.src;simp only[List.cons.injEq,Value.slice.injEq,true_and,and_true] at a;obtain⟨⟨rfl,rfl⟩,⟨rfl,rfl⟩,rfl,rfl⟩:=a;refine(zkT asa x.san csa x.sa u h.sh.1.1 h.sh.1.2 (b.below h.bel)).mono ?_;rintro e c ⟨⟨g,L,C,rfl,j⟩,d⟩;have k:=h.below d;exact⟨g,rfl,k.bel,k.rl,k.src,k.sh,k.lg,k.box,k.res,fun g' e=>(by cases e;exact⟨L,C,j.base h.bel.size⟩),k.h2,k.h3⟩
theorem COf.c2 (h:COf w u xb rb x asa ald abk csa cld cbk p1 none p3):Calls Tryz.prog 114 #[.slice ald x.ldn cld,.func (.func 115) #[] #[]] u fun e c=>∃ g,e=.returned (.slice (some ⟨g,0,none⟩) x.ldn x.ldn)/\Hid (COf w c xb rb x asa ald abk csa cld cbk p1 (some g) p3):=by
 obtain⟨_,_,_,_,_,_,a,j,_,b,_,f,_⟩:=h.src;simp only[List.cons.injEq,Value.slice.injEq,true_and,and_true] at a;obtain⟨⟨rfl,rfl⟩,⟨rfl,rfl⟩,rfl,rfl⟩:=a;refine(zjc ald x.ldn cld x.ld u h.sh.2.1.1 h.sh.2.1.2 (b.below h.bel)).mono ?_;rintro e c ⟨⟨g,A,B,D,rfl,i⟩,d⟩;have k:=h.below d;exact⟨g,rfl,k.bel,k.rl,k.src,k.sh,k.lg,k.box,k.res,k.h1,fun g' e=>(by cases e;exact⟨A,B,D,i.lower h.bel.size⟩),k.h3⟩
theorem COf.c3 (h:COf w u xb rb x asa ald abk csa cld cbk p1 p2 none):Calls Tryz.prog 116 #[.slice abk x.bkn cbk,.func (.func 117) #[] #[]] u fun e d=>∃ g,e=.returned (.slice (some ⟨g,0,none⟩) x.bkn x.bkn)/\Hid (COf w d xb rb x asa ald abk csa cld cbk p1 p2 (some g)):=by
 obtain⟨_,_,_,_,_,_,a,m,_,j,_,b,_⟩:=h.src;simp only[List.cons.injEq,Value.slice.injEq,true_and,and_true] at a;obtain⟨⟨rfl,rfl⟩,⟨rfl,rfl⟩,rfl,rfl⟩:=a;refine(ziA abk x.bkn cbk x.bk u h.sh.2.2.1 (fun i c=>⟨h.lg i c,(h.sh.2.2.2 i c).2⟩) (b.below h.bel)).mono ?_
 rintro e d ⟨⟨g,E,rfl,l⟩,f⟩;have k:=h.below f;exact⟨g,rfl,k.bel,k.rl,k.src,k.sh,k.lg,k.box,k.res,k.h1,k.h2,fun g' e=>(by cases e;exact⟨E,l.lower h.bel.size⟩)⟩
structure COe (w u:World)(g k:Nat)(x:Off)(c b a:Option Addr)(f e d h i j:Nat):Prop where
 bel:Below w.heap.size w u
 s:u.cell? ⟨g,0,none⟩=some (.slice c x.san f)/\u.cell? ⟨g,1,none⟩=some (.slice b x.ldn e)/\u.cell? ⟨g,2,none⟩=some (.slice a x.bkn d)
 res:u.heap[k]?=some (.cells #[.slice (some ⟨h,0,none⟩) x.san x.san,.slice (some ⟨i,0,none⟩) x.ldn x.ldn,.slice (some ⟨j,0,none⟩) x.bkn x.bkn] 38 (0,0))
 own:∃ L C A B D E,zF u w.heap.size (.slice (some ⟨h,0,none⟩) x.san x.san) (.slice (some ⟨i,0,none⟩) x.ldn x.ldn) (.slice (some ⟨j,0,none⟩) x.bkn x.bkn) x.san x.ldn x.bkn x L C A B D E
theorem COf.fin {c d e:Nat}(h:COf w u xb rb x asa ald abk csa cld cbk (some c) (some d) (some e))(g:xb≠rb):COe w (((u.setCell ⟨rb,0,none⟩ (.slice (some ⟨c,0,none⟩) x.san x.san)).setCell ⟨rb,1,none⟩ (.slice (some ⟨d,0,none⟩) x.ldn x.ldn)).setCell ⟨rb,2,none⟩ (.slice (some ⟨e,0,none⟩) x.bkn x.bkn)) xb rb x asa ald abk csa cld cbk c d e:=by
 have i:zx u (((u.setCell ⟨rb,0,none⟩ (.slice (some ⟨c,0,none⟩) x.san x.san)).setCell ⟨rb,1,none⟩ (.slice (some ⟨d,0,none⟩) x.ldn x.ldn)).setCell ⟨rb,2,none⟩ (.slice (some ⟨e,0,none⟩) x.bkn x.bkn)) (fun b=>b=rb):=(((zx.refl u (fun b=>b=rb)).set (a:=⟨rb,0,none⟩) rfl _).set (a:=⟨rb,1,none⟩) rfl _).set (a:=⟨rb,2,none⟩) rfl _
 have f:=i.blk h.box g;obtain⟨L,C,j⟩:=h.h1 _ rfl;obtain⟨A,B,D,k⟩:=h.h2 _ rfl;obtain⟨E,l⟩:=h.h3 _ rfl;exact⟨((h.bel.setCell (p:=⟨rb,0,none⟩) h.rl _).setCell (p:=⟨rb,1,none⟩) h.rl _).setCell (p:=⟨rb,2,none⟩) h.rl _,⟨za f 0 _ rfl,za f 1 _ rfl,za f 2 _ rfl⟩,by simpa using zm (zm (zm h.res 0 _) 1 _) 2 _,L,C,A,B,D,E,zF.box ⟨j,k,l⟩ i h.res (by decide)⟩
end
theorem zeh (x:Off)(c b a:Option Addr)(g f d:Nat)(w:World)(F:Off.Short x 1048576)(y:∀ i,i<x.bkn->0<(x.bk i).lgn)(h:Off.Is w [.slice c x.san g,.slice b x.ldn f,.slice a x.bkn d] x) :
  Calls Tryz.prog 54 #[.agg #[.slice c x.san g,.slice b x.ldn f,.slice a x.bkn d]] w fun e w'=>(∃ l m n L C A B D E,e=.returned (.agg #[.slice (some ⟨l,0,none⟩) x.san x.san,.slice (some ⟨m,0,none⟩) x.ldn x.ldn,.slice (some ⟨n,0,none⟩) x.bkn x.bkn])/\zF w' w.heap.size (.slice (some ⟨l,0,none⟩) x.san x.san) (.slice (some ⟨m,0,none⟩) x.ldn x.ldn) (.slice (some ⟨n,0,none⟩) x.bkn x.bkn) x.san x.ldn x.bkn x L C A B D E)/\Below w.heap.size w w':=by
 have j:Hid (COf w ((w.alloc (.cells #[.slice c x.san g,.slice b x.ldn f,.slice a x.bkn d] 38)).alloc (.cells #[.slice none 0 0,.slice none 0 0,.slice none 0 0] 38)).drew w.heap.size (w.heap.size+1) x c b a g f d none none none) :=
  ⟨(zk (zk bZ _) _).drew,by omega,h,F,y,zK (zd (heap_alloc_new w _) _),zK (by simpa using heap_alloc_new (w.alloc (.cells #[.slice c x.san g,.slice b x.ldn f,.slice a x.bkn d] 38)) _),fun _ e=>(by cases e),fun _ e=>(by cases e),fun _ e=>(by cases e)⟩
 have q:w.heap.size≠w.heap.size+1:=by omega
 go_enter Tryz.func54,Tryz.ntmps54;go_upto_region 1 with fail;refine qg 11 11 (fun u=>u.cell? ⟨w.heap.size,0,none⟩=some (.slice c x.san g)/\u.cell? ⟨w.heap.size,1,none⟩=some (.slice b x.ldn f)/\u.cell? ⟨w.heap.size,2,none⟩=some (.slice a x.bkn d)) rfl (by kernel_rfl) j.out.s (fun o=>?_)
 simp only[List.replicate_succ,List.replicate_zero];generalize ((w.alloc (.cells #[.slice c x.san g,.slice b x.ldn f,.slice a x.bkn d] 38)).alloc (.cells #[.slice none 0 0,.slice none 0 0,.slice none 0 0] 38)).drew=u0 at j o ⊢
 (refine tkN 0 (v:=?_) rfl (by kernel_rfl) (fun _ _ _ h=>h) rfl (by assumption) ?_ ?_;rotate_left;(focus(intro w' h;(try dsimp only at h);go_simp;try with_reducible rfl));simp only[Act.put,sB,sZ,sS])
 (refine tkN 1 (v:=?_) rfl (by kernel_rfl) (fun _ _ _ h=>h) rfl (by assumption) ?_ ?_;rotate_left;(focus(intro w' h;(try dsimp only at h);go_simp;try with_reducible rfl));simp only[Act.put,sB,sZ,sS])
 (refine tkN 3 (v:=?_) rfl (by kernel_rfl) (fun _ _ _ h=>h) rfl (by assumption) ?_ ?_;rotate_left;(focus(intro w' h;(try dsimp only at h);go_simp;try with_reducible rfl));simp only[Act.put,sB,sZ,sS])
 (refine tkN 4 (v:=?_) rfl (by kernel_rfl) (fun _ _ _ h=>h) rfl (by assumption) ?_ ?_;rotate_left;(focus(intro w' h;(try dsimp only at h);go_simp;try with_reducible rfl));simp only[Act.put,sB,sZ,sS])
 (refine tkN 6 (v:=?_) rfl (by kernel_rfl) (fun _ _ _ h=>h) rfl (by assumption) ?_ ?_;rotate_left;(focus(intro w' h;(try dsimp only at h);go_simp;try with_reducible rfl));simp only[Act.put,sB,sZ,sS])
 (refine tkN 7 (v:=?_) rfl (by kernel_rfl) (fun _ _ _ h=>h) rfl (by assumption) ?_ ?_;rotate_left;(focus(intro w' h;(try dsimp only at h);go_simp;try with_reducible rfl));simp only[Act.put,sB,sZ,sS])
 refine zj (rs:=[2]) (by kernel_rfl) (by simp) ?_
 refine zc.consL rfl (fun K k=>?_) zc.nil
 focus
  go_simp;go_at_call 112;refine Calls.mono (j.out.c1) ?_;rintro e u1 ⟨l,rfl,j⟩;dsimp only;refine k.out _ _ j.out.s (fun o=>?_)
  clear k K;simp only[sZ,sS];refine zj (rs:=[5]) (by kernel_rfl) (by simp) ?_
  refine zc.consL rfl (fun K k=>?_) zc.nil
  focus
   go_simp;go_at_call 114;refine Calls.mono (j.out.c2) ?_;rintro e u2 ⟨m,rfl,j⟩;dsimp only;refine k.out _ _ j.out.s (fun o=>?_)
   clear k K;simp only[sZ,sS];refine zj (rs:=[8]) (by kernel_rfl) (by simp) ?_
   refine zc.consL rfl (fun K k=>?_) zc.nil
   focus
    go_simp;go_at_call 116;refine Calls.mono (j.out.c3) ?_;rintro e u3 ⟨n,rfl,j⟩;dsimp only;refine k.out _ _ j.out.s (fun o=>?_)
    clear k K;simp only[sZ,sS]
 all_goals
  (refine tkN 9 (v:=?_) rfl (by kernel_rfl) (fun _ _ _ h=>h) rfl (by assumption) ?_ ?_;rotate_left;(focus(intro w' h;(try dsimp only at h);go_simp;try with_reducible rfl));simp only[Act.put,sB,sZ,sS])
  obtain⟨G,H,I⟩:=ce3 j.out.res;obtain⟨r,s,t⟩:=fe3 j.out.res;refine zj (rs:=[10]) (by kernel_rfl) (by simp) ?_
  refine zc.consL rfl (fun K k=>?_) zc.nil
  go_simp;have p:Hid _:=j.out.fin q;refine k.out _ _ p.out.s (fun o=>?_)
  clear k K G H I r s t;simp only[sZ,sS];refine zX (by kernel_rfl) ?_ _
  go_wp2;obtain⟨J,M,N⟩:=ce3 p.out.res;obtain⟨L,C,A,B,D,E,z⟩:=p.out.own;exact bodyPost_ret (v:=.agg #[.slice (some ⟨l,0,none⟩) x.san x.san,.slice (some ⟨m,0,none⟩) x.ldn x.ldn,.slice (some ⟨n,0,none⟩) x.bkn x.bkn]) (by simp[results,Tryz.results54,go_sem,J,M,N]) rfl ⟨⟨l,m,n,L,C,A,B,D,E,rfl,z⟩,p.out.bel⟩
end
theorem zkU (k:Nat)(w:World)(hk:k<=4194304) :
  Calls Tryz.prog 252 #[.slice none 0 0,int i64 k] w fun e w'=>(∃ v,e=.returned v/\w'.ownsRow w.heap.size 268 10 v 0 [])/\Below w.heap.size w w':=by
 have d0:decide ((k:Int)<0)=false:=by simp
 by_cases h0:0<k
 ·obtain⟨f,g,b,h,c⟩:=info_parts Tryz.infoWorkI
  have a:=Lib.run_append_nil_zeros (P:=Tryz.prog) w 175 3 175 268 f (.agg #[int i64 0,int i64 0,int i64 0,int i64 0,int i64 0,int i64 0,int i64 0,.bool false,int i64 0,.bool false]) .i64 .i64 Tryz.underlying175 Tryz.underlying3 g b k h0 (by omega) (by omega) (by rw[c];omega)
  have d1:decide (0<k)=true:=by simpa using h0
  go_enter Tryz.func252,Tryz.ntmps252;go_wp2_with (first|(at_builtin;refine Lib.wpList_append_run _ rfl _ _ _ _ rfl _ _ rfl rfl _ _ a ?_))
  go_ret;have d:=grownCap_ge w k 0 268;refine⟨⟨_,rfl,rfl,.inr ⟨w.heap.size,_,_,rfl,Nat.le_refl _,heap_alloc_new w _,Nat.zero_le _,grownCap_le_maxLen w k 0 _ (by unfold maxLen;omega),?_,rfl⟩⟩,(zk (Below.refl _ w) _).drew⟩
  rw[Array.size_append,size_zeroCells,size_zeroCells]
  show k*10+(_ - k)*10=_*10
  omega
 ·obtain rfl:k=0:=by omega
  go_enter Tryz.func252,Tryz.ntmps252;go_wp2;go_ret;exact⟨⟨_,rfl,rfl,.inl ⟨rfl,rfl⟩⟩,bZ⟩
def zhl (n j r:Nat):Nat:=if r=0 then 0 else if r=1 then n else n+j
def cumL (a b:List Value)(r:Nat):List Value:=if r=0 then [] else if r=1 then a else a++b
theorem znT (q:Nat)(p t:Option Addr)(n j y E:Nat)(b c:List Value)(w:World)(hn:n<=1048576)(F:j<=1048576)(X:b.length=n*10)(Y:c.length=j*10)(Z:∀ u ∈ b,u.oneCell'=true)(oy:∀ u ∈ c,u.oneCell'=true)
  (m:w.heap[q]?=some (.cells #[.slice p n y,.slice t j E] 175 (0,0))) (O:zcb w p b) (P:zcb w t c) (J:p=none->n=0/\y=0) (K:t=none->j=0/\E=0) :
  Calls Tryz.prog 201 #[.slice (some ⟨q,0,none⟩) 2 2] w fun e w'=>(∃ v,e=.returned v/\w'.ownsRow w.heap.size 268 10 v (n+j) (b++c))/\Below w.heap.size w w':=by
 obtain⟨Q,R,B,C,D⟩:=info_parts Tryz.infoWorkI;have V:=hI O;have W:=hI P;have S:w.cell? ⟨q,0,none⟩=some (.slice p n y):=za m 0 _ rfl;have T:w.cell? ⟨q,1,none⟩=some (.slice t j E):=za m 1 _ rfl;have c0:zhl n j 0=0:=rfl;have c1:zhl n j 1=n:=rfl;have c2:zhl n j 2=n+j:=rfl;have d0:cumL b c 0=[]:=rfl;have M:cumL b c 1=b:=rfl;have N:cumL b c 2=b++c:=rfl;clear O P;go_enter Tryz.func201,Tryz.ntmps201;go_wp2;go_loopg [3,5,11] 2 (fun g s _ i wr=>∃ r:Nat,r<=2/\g=2 - r/\i=int i64 r/\s=int i64 (zhl n j r)/\wr=w)
 case atStart=>exact⟨0,by omega,rfl,rfl,rfl,rfl⟩
 case round =>
  obtain⟨r,hr,rfl,rfl,rfl,z⟩:=hrel;have A:=z.symm;subst A;clear z;have k:r=0∨r=1∨r=2:=by omega
  rcases k with rfl|rfl|rfl
  ·go_wp2
   go_roundg 1
   case measure=>omega
   case rel=>exact⟨1,by omega,rfl,by go_num,by rw[c1],rfl⟩
  ·have hd:decide ((n:Int)+(j:Int)<0)=false:=by simp;omega
   go_wp2;go_roundg 0
   case measure=>omega
   case rel=>exact⟨2,by omega,rfl,by go_num,by rw[c2];go_num,rfl⟩
  ·go_wp2_with fail
   refine(zkU (n+j) _ (by omega)).mono ?_
   rintro e w1 ⟨⟨v,rfl,L⟩,I⟩;clear S T;go_wp2;go_loopg [6,8,27] 2 (fun g u _ i wr=>∃ r:Nat,r<=2/\g=2 - r/\i=int i64 r/\wr.ownsRow w.heap.size 268 10 u (zhl n j r) (cumL b c r)/\Below w.heap.size w wr)
   case atStart=>exact⟨0,by omega,rfl,rfl,L,I⟩
   case round =>
    obtain⟨r,hr,rfl,rfl,o,a⟩:=hrel;obtain⟨U,H⟩:∃ x,x=wr:=⟨_,rfl⟩;subst H;have f:=a.size;have h:=zb m a;have S:U.cell? ⟨q,0,none⟩=some (.slice p n y):=za h 0 _ rfl;have T:U.cell? ⟨q,1,none⟩=some (.slice t j E):=za h 1 _ rfl;have k:r=0∨r=1∨r=2:=by omega
    rcases k with rfl|rfl|rfl
    ·have G:=hI (V.out.below a)
     go_wp2_with (first|(at_builtin;refine zv _ (by rfl) (.tmp 31) (.tmp 32) 175 (by rfl) w.heap.size 268 Q (.agg #[int i64 0,int i64 0,int i64 0,int i64 0,int i64 0,int i64 0,int i64 0,.bool false,int i64 0,.bool false]) 10 80 Tryz.underlying175 R B C D rfl (by decide) _ 0 [] (by rfl) o p n y b (by rfl) J X G.out Z (by unfold maxLen;omega) (by omega) f ?_;intro v' w3 d l))
     go_roundg 1
     case measure=>omega
     case rel=>exact⟨1,by omega,rfl,by go_num,by
      rw[c1,M];rw[Nat.zero_add,List.nil_append] at d;exact d,a.grown l f (fun j F=>(o.lt j F).1)⟩
    ·have G:=hI (W.out.below a)
     rw[c1,M] at o;go_wp2_with (first|(at_builtin;refine zv _ (by rfl) (.tmp 31) (.tmp 32) 175 (by rfl) w.heap.size 268 Q (.agg #[int i64 0,int i64 0,int i64 0,int i64 0,int i64 0,int i64 0,int i64 0,.bool false,int i64 0,.bool false]) 10 80 Tryz.underlying175 R B C D rfl (by decide) _ n b (by rfl) o t j E c (by rfl) K Y G.out oy (by unfold maxLen;omega) (by omega) f ?_;intro v' w3 d l))
     go_roundg 0
     case measure=>omega
     case rel=>exact⟨2,by omega,rfl,by go_num,by
      rw[c2,N];exact d,a.grown l f (fun j F=>(o.lt j F).1)⟩
    ·rw[c2,N] at o
     go_wp2;go_ret;exact⟨⟨_,rfl,o⟩,a⟩
theorem zdz {w:World}{base e sz n c:Nat}{f:Option Addr}{a:List Value}(h:w.ownsRow base e sz (.slice f n c) n a):zcb w f a:=by
 intro ad k j u d;subst k;have i:j<a.length:=by
  rcases Nat.lt_or_ge j a.length with h1|h1
  ·exact h1
  ·rw[List.getElem?_eq_none h1] at d;cases d
 have l:0<n:=by
  rcases Nat.eq_zero_or_pos n with b|b
  ·rw[h.1,b,Nat.zero_mul] at i;omega
  ·exact b
 obtain⟨g,e,_,_⟩:=qh h l
 cases e
 rw[Addr.add_lit,Nat.zero_add,h.cellAt j (by rw[← h.1];exact i),d]
def goL (x:Off)(y:OpD)(m:Nat):List Wk:=if Qt y.kind then Zh true (x.bk m).who ⟨(x.bk m).pe,(x.bk m).len,(x.bk m).hei,(x.bk m).cl,(x.bk m).all,(x.bk m).be⟩ (x.bk m).lg (x.bk m).lgn else []
theorem goL_len (x:Off)(y:OpD)(m:Nat)(h:Qt y.kind->(x.bk m).lgn<=3):(goL x y m).length<=9:=by
 unfold goL
 split
 ·rename_i c
  have:=QD true (x.bk m).who ⟨(x.bk m).pe,(x.bk m).len,(x.bk m).hei,(x.bk m).cl,(x.bk m).all,(x.bk m).be⟩ (x.bk m).lg (x.bk m).lgn;have:=h c
  omega
 ·exact Nat.zero_le _
theorem zjd (x:Off)(Q:Option Addr)(a8:Nat)(c:Int)(y:OpD)(i:Option Addr)(q k m:Nat)(w:World)(hF:Zm w)(hk:y.kind=(k:Int))(a0:k<10)(S:qO w Q x.bkn x.bk)
  (K:Qt y.kind->y.name=(m:Int)+1/\m<x.bkn/\(x.bk m).lgn<=3/\FitP ⟨(x.bk m).pe,(x.bk m).len,(x.bk m).hei,(x.bk m).cl,(x.bk m).all,(x.bk m).be⟩) (Z:zJ y.kind->y.lgn<=3/\FitP ⟨y.pe,y.len,y.hei,y.cl,y.all,y.be⟩) (hl:zT w i y.lgn y.lg) (b1:x.bkn<=1048576) :
  Calls Tryz.prog 109 #[.slice Q x.bkn a8,int i64 c,.agg #[int i64 y.kind,.string y.own,int i64 y.name,.slice i y.lgn q,int i64 y.pe,int i64 y.len,int i64 y.hei,int i64 y.cl,.bool y.all,int i64 y.be,int i64 y.unt,int i64 y.now]] w fun e w'=>(∃ v,e=.returned v/\w'.ownsRow w.heap.size 268 10 v (qk x c y m).length (zgF (qk x c y m)))/\Below w.heap.size w w':=by
 have HF:=hI hF;have HK:=hI hk;have HB:=hI S;have B:Hid (zdy k=true->Qt y.kind/\y.name=(m:Int)+1/\m<x.bkn/\(x.bk m).lgn<=3/\FitP ⟨(x.bk m).pe,(x.bk m).len,(x.bk m).hei,(x.bk m).cl,(x.bk m).all,(x.bk m).be⟩):=fun h=>by
  have h2:k=5∨k=6∨k=8:=by simpa [zdy] using h
  have h3:Qt y.kind:=by unfold Qt;omega
  exact⟨h3,K h3⟩
 have C:Hid (zdy k=false->¬ Qt y.kind):=fun h h3=>by
  have h2:¬ (k=5∨k=6∨k=8):=by simpa [zdy] using h
  unfold Qt at h3
  omega
 have F:Hid (QZ k=true->zJ y.kind/\y.lgn<=3/\FitP ⟨y.pe,y.len,y.hei,y.cl,y.all,y.be⟩):=fun h=>by
  have h2:k=1∨k=2∨k=3∨k=5:=by simpa [QZ] using h
  have h3:zJ y.kind:=by unfold zJ;omega
  exact⟨h3,Z h3⟩
 have E:Hid (QZ k=false->¬ zJ y.kind):=fun h h3=>by
  have h2:¬ (k=1∨k=2∨k=3∨k=5):=by simpa [QZ] using h
  unfold zJ at h3
  omega
 have P:Hid ((goL x y m).length<=9):=goL_len x y m (fun h=>(K h).2.2.1)
 have HI:=hI hl;clear hF hk S K Z hl;have b2:(0:Int)<=(k:Int):=by omega
 have b3:(k:Int)<10:=by omega
 have a:Below w.heap.size w (w.alloc (.cells #[int i64 y.kind,.string y.own,int i64 y.name,.slice i y.lgn q,int i64 y.pe,int i64 y.len,int i64 y.hei,int i64 y.cl,.bool y.all,int i64 y.be,int i64 y.unt,int i64 y.now] 47)):=zk bZ _;have M:=heap_alloc_new w (.cells #[int i64 y.kind,.string y.own,int i64 y.name,.slice i y.lgn q,int i64 y.pe,int i64 y.len,int i64 y.hei,int i64 y.cl,.bool y.all,int i64 y.be,int i64 y.unt,int i64 y.now] 47);go_enter Tryz.func109,Tryz.ntmps109;go_upto_region 2 with fail;generalize w.alloc (.cells #[int i64 y.kind,.string y.own,int i64 y.name,.slice i y.lgn q,int i64 y.pe,int i64 y.len,int i64 y.hei,int i64 y.cl,.bool y.all,int i64 y.be,int i64 y.unt,int i64 y.now] 47)=V at a M ⊢;have y0:V.cell? ⟨w.heap.size,0,none⟩=some (int i64 (k:Int)):=by rw[← HK.out];exact za M 0 _ rfl
 have t6:=((HF.out.below a) k a0).2.2.2.2.2.2;go_upto_if 13 with fail;clear y0 t6;go_cut [7] (fun s7 wx=>wx.ownsRow w.heap.size 268 10 s7 (goL x y m).length (zgF (goL x y m))/\wx.heap[w.heap.size]?=some (.cells #[int i64 y.kind,.string y.own,int i64 y.name,.slice i y.lgn q,int i64 y.pe,int i64 y.len,int i64 y.hei,int i64 y.cl,.bool y.all,int i64 y.be,int i64 y.unt,int i64 y.now] 47 (0,0))/\Below w.heap.size w wx)
 case first =>
  obtain⟨fb,X⟩:∃ fb,fb=zdy k:=⟨_,rfl⟩;rw[← X] at B C ⊢;clear X
  cases fb with
  | false =>
   have HG:Hid (goL x y m=[]):=if_neg (C.out rfl);go_wp2;go_meet;exact⟨by rw[HG.out];exact World.ownsRow_nil _ _ _ _,M,a⟩
  | true =>
   obtain⟨h1,h2,h3,h4,h5⟩:=B.out rfl;have HG:Hid (goL x y m=_):=if_pos h1;obtain⟨D,hD,hJ⟩:=HB.out;obtain⟨bb,bo,rfl,l⟩:=hD m h3;obtain⟨b,J⟩:∃ b,b=x.bk m:=⟨_,rfl⟩;obtain⟨o,n,j,L,a3⟩:=hJ m h3;rw[← J] at j L a3 HG h4 h5;have b0:=hI J;have a4:=hI L;have A:=hI h5;have d:bb<w.heap.size:=World.block_lt_of_cell? w _ (l 0 (by decide))
   have y2:V.cell? ⟨w.heap.size,2,none⟩=some (int i64 ((m:Int)+1)):=by rw[← h2];exact za M 2 _ rfl
   clear h2;have b6:IntKind.i64.wrap ((m:Int)+1 - 1)=(m:Int):=by rw[IntKind.wrap_i64];omega
   have i0:(0:Int)<=(m:Int):=by omega
   have i1:(m:Int)<(x.bkn:Int):=by omega
   have c0:V.cell? ⟨bb,bo+m*13,none⟩=some (int i64 b.name):=(a.cell (p:=⟨bb,bo+m*13,none⟩) d).trans (by have:=l 0 (by decide);rw[j] at this;exact this)
   have c1:V.cell? ⟨bb,bo+m*13+1,none⟩=some (int i64 b.who):=(a.cell (p:=⟨bb,bo+m*13+1,none⟩) d).trans (by have:=l 1 (by decide);rw[j] at this;exact this)
   have c2:V.cell? ⟨bb,bo+m*13+2,none⟩=some (.string b.own):=(a.cell (p:=⟨bb,bo+m*13+2,none⟩) d).trans (by have:=l 2 (by decide);rw[j] at this;exact this)
   have c3:V.cell? ⟨bb,bo+m*13+3,none⟩=some (.slice o b.lgn n):=(a.cell (p:=⟨bb,bo+m*13+3,none⟩) d).trans (by have:=l 3 (by decide);rw[j] at this;exact this)
   have c4:V.cell? ⟨bb,bo+m*13+4,none⟩=some (int i64 b.pe):=(a.cell (p:=⟨bb,bo+m*13+4,none⟩) d).trans (by have:=l 4 (by decide);rw[j] at this;exact this)
   have c5:V.cell? ⟨bb,bo+m*13+5,none⟩=some (int i64 b.len):=(a.cell (p:=⟨bb,bo+m*13+5,none⟩) d).trans (by have:=l 5 (by decide);rw[j] at this;exact this)
   have c6:V.cell? ⟨bb,bo+m*13+6,none⟩=some (int i64 b.hei):=(a.cell (p:=⟨bb,bo+m*13+6,none⟩) d).trans (by have:=l 6 (by decide);rw[j] at this;exact this)
   have c7:V.cell? ⟨bb,bo+m*13+7,none⟩=some (int i64 b.cl):=(a.cell (p:=⟨bb,bo+m*13+7,none⟩) d).trans (by have:=l 7 (by decide);rw[j] at this;exact this)
   have c8:V.cell? ⟨bb,bo+m*13+8,none⟩=some (.bool b.all):=(a.cell (p:=⟨bb,bo+m*13+8,none⟩) d).trans (by have:=l 8 (by decide);rw[j] at this;exact this)
   have c9:V.cell? ⟨bb,bo+m*13+9,none⟩=some (int i64 b.be):=(a.cell (p:=⟨bb,bo+m*13+9,none⟩) d).trans (by have:=l 9 (by decide);rw[j] at this;exact this)
   have a5:V.cell? ⟨bb,bo+m*13+10,none⟩=some (int i64 b.state):=(a.cell (p:=⟨bb,bo+m*13+10,none⟩) d).trans (by have:=l 10 (by decide);rw[j] at this;exact this)
   have a6:V.cell? ⟨bb,bo+m*13+11,none⟩=some (int i64 b.unt):=(a.cell (p:=⟨bb,bo+m*13+11,none⟩) d).trans (by have:=l 11 (by decide);rw[j] at this;exact this)
   have a7:V.cell? ⟨bb,bo+m*13+12,none⟩=some (int i64 b.price):=(a.cell (p:=⟨bb,bo+m*13+12,none⟩) d).trans (by have:=l 12 (by decide);rw[j] at this;exact this)
   clear hD hJ l j J L a3 h5;have u:=heap_alloc_new V (.cells #[int i64 b.name,int i64 b.who,.string b.own,.slice o b.lgn n,int i64 b.pe,int i64 b.len,int i64 b.hei,int i64 b.cl,.bool b.all,int i64 b.be,int i64 b.state,int i64 b.unt,int i64 b.price] 150);have g:=zk a (.cells #[int i64 b.name,int i64 b.who,.string b.own,.slice o b.lgn n,int i64 b.pe,int i64 b.len,int i64 b.hei,int i64 b.cl,.bool b.all,int i64 b.be,int i64 b.state,int i64 b.unt,int i64 b.price] 150);have f:=zd M (.cells #[int i64 b.name,int i64 b.who,.string b.own,.slice o b.lgn n,int i64 b.pe,int i64 b.len,int i64 b.hei,int i64 b.cl,.bool b.all,int i64 b.be,int i64 b.state,int i64 b.unt,int i64 b.price] 150);go_upto_region 4 with fail;generalize V.alloc (.cells #[int i64 b.name,int i64 b.who,.string b.own,.slice o b.lgn n,int i64 b.pe,int i64 b.len,int i64 b.hei,int i64 b.cl,.bool b.all,int i64 b.be,int i64 b.state,int i64 b.unt,int i64 b.price] 150)=V1 at u g f ⊢;generalize V.heap.size=bx at u ⊢;clear c0 c1 c2 c3 c4 c5 c6 c7 c8 c9 a5 a6 a7 y2;have e1:=za u 1 _ rfl;have e3:=za u 3 _ rfl;have e4:=za u 4 _ rfl;have e5:=za u 5 _ rfl;have e6:=za u 6 _ rfl;have e7:=za u 7 _ rfl;have e8:=za u 8 _ rfl;have e9:=za u 9 _ rfl;go_wp2_with fail;clear e1 e3 e4 e5 e6 e7 e8 e9;refine(zgG o b.lgn n b.lg b.who ⟨b.pe,b.len,b.hei,b.cl,b.all,b.be⟩ true _ h4 A.out (a4.out.below g)).mono ?_;rintro e W ⟨⟨v,rfl,N⟩,r⟩;go_wp2;go_meet;rw[HG.out];exact⟨zu N g.size,zb f r,ze g r⟩
 case rest =>
 obtain⟨t,f,g⟩:=hcut;clear M a B C HB;obtain⟨z,H⟩:∃ z,z=goL x y m:=⟨_,rfl⟩;have O:Hid (qk x c y m=z++(if zJ y.kind then Zh false c ⟨y.pe,y.len,y.hei,y.cl,y.all,y.be⟩ y.lg y.lgn else [])):=by show _=_;rw[H];rfl
 rw[← H] at t P;clear H;have y0:wc.cell? ⟨w.heap.size,0,none⟩=some (int i64 (k:Int)):=by rw[← HK.out];exact za f 0 _ rfl
 have t3:=((HF.out.below g) k a0).2.2.2.1;obtain⟨ra,rc,rfl,s1,_,s3⟩:=zp t;go_upto_if 32 with fail;clear y0 t3;obtain⟨fp,Y⟩:∃ fp,fp=QZ k:=⟨_,rfl⟩;rw[← Y] at F E ⊢;clear Y
 cases fp with
 | false =>
  have HN:Hid (qk x c y m=z):=by show _=_;rw[O.out,if_neg (E.out rfl),List.append_nil]
  go_wp2;go_ret;exact⟨⟨_,rfl,by rw[HN.out];exact t⟩,g⟩
 | true =>
  obtain⟨h1,h2,h3⟩:=F.out rfl;have A:=hI h3;have HN:Hid (qk x c y m=z++Zh false c ⟨y.pe,y.len,y.hei,y.cl,y.all,y.be⟩ y.lg y.lgn):=by show _=_;rw[O.out,if_pos h1]
  clear h1 h3 F E;have e3:=za f 3 _ rfl;have e4:=za f 4 _ rfl;have e5:=za f 5 _ rfl;have e6:=za f 6 _ rfl;have e7:=za f 7 _ rfl;have e8:=za f 8 _ rfl;have e9:=za f 9 _ rfl;go_wp2_with fail;clear e3 e4 e5 e6 e7 e8 e9;refine(zgG i y.lgn q y.lg c ⟨y.pe,y.len,y.hei,y.cl,y.all,y.be⟩ false _ h2 A.out (HI.out.below g)).mono ?_;rintro e W ⟨⟨v,rfl,N⟩,r⟩;obtain⟨G,I⟩:∃ G,G=Zh false c ⟨y.pe,y.len,y.hei,y.cl,y.all,y.be⟩ y.lg y.lgn:=⟨_,rfl⟩;have b5:G.length<=9:=by rw[I];have:=QD false c ⟨y.pe,y.len,y.hei,y.cl,y.all,y.be⟩ y.lg y.lgn;omega
  rw[← I] at N HN;clear I;obtain⟨qa,qc,rfl,q1,_,q3⟩:=zp N;have b4:=P.out;have a1:=zo r t;have R:=ze g r;have s:Below W.heap.size W (W.alloc (.cells #[.slice ra z.length rc,.slice qa G.length qc] 175)):=zk bZ _;have bS:=heap_alloc_new W (.cells #[.slice ra z.length rc,.slice qa G.length qc] 175);go_wp2_with fail;refine(znT W.heap.size ra qa z.length G.length rc qc (zgF z) (zgF G) _ (by omega) (by omega) (zmE _) (zmE _) (zmF _) (zmF _) bS ((zdz a1).below s) ((zdz N).below s) s3 q3).mono ?_
  rintro e U ⟨⟨v,rfl,a2⟩,T⟩;have a9:=ze (ze R s) T;have HU:Hid (U.ownsRow w.heap.size 268 10 v (qk x c y m).length (zgF (qk x c y m))):=by show U.ownsRow _ _ _ _ _ _;rw[HN.out,wkRI_app,List.length_append];exact zu a2 (ze R s).size
  clear N t a1 a2 bS s T r;go_wp2;go_ret;exact⟨⟨_,rfl,HU.out⟩,a9⟩
section
open Go.RowKit
theorem zmN:∀ (l:List Wk)(j:Nat)(v:Wk),l[j]?=some v->∀ r,r<10->(zgF l)[j*10+r]?=(wkI v)[r]?
 | [],j,v,h,_,_=>by simp at h
 | u :: l,0,v,h,r,hr=>by
  have e:u=v:=by simpa using h
  subst e
  show(wkI u++zgF l)[0*10+r]?=_
  rw[List.getElem?_append_left (by show 0*10+r<10;omega),Nat.zero_mul,Nat.zero_add]
 | u :: l,j+1,v,h,r,hr=>by
  have h2:l[j]?=some v:=by simpa using h
  show(wkI u++zgF l)[(j+1)*10+r]?=_
  rw[List.getElem?_append_right (by show 10<=_;omega),show(j+1)*10+r - (wkI u).length=j*10+r by show(j+1)*10+r - 10=_;omega]
  exact zmN l j v h2 r hr
theorem ldRow_one {A B D:Nat->Value}{N:Nat}(h:∀ i,i<N->∃ a e c1 b f c2 c g c3,A i=.slice a e c1/\B i=.slice b f c2/\D i=.slice c g c3):∀ u ∈ zdZ A B D N,u.oneCell'=true:=by
 intro u d;unfold zdZ at d;obtain⟨j,n,rfl⟩:=List.mem_map.1 d;have o:j<N*3:=by simpa using n
 obtain⟨a,e,c1,b,f,c2,c,g,c3,k,l,m⟩:=h (j / 3) (by omega)
 unfold zZ ldC;rw[k,l,m];have:j % 3=0∨j % 3=1∨j % 3=2:=by omega
 rcases this with q|q|q <;> rw[q] <;> rfl
theorem qC.forms {w:World}{base N:Nat}{v:Value}{S:Nat->zY}{A B D:Nat->Value}(h:qC w base v N S A B D){i:Nat}(d:i<N):∃ a c1 b c2 c c3,A i=.slice a (S i).stn c1/\B i=.slice b (S i).ron c2/\D i=.slice c (S i).sen c3:=by
 obtain⟨a,c1,e,_⟩:=zp (h.st i d);obtain⟨b,c2,f,_⟩:=zp (h.ro i d);obtain⟨c,c3,g,_⟩:=zp (h.se i d);exact⟨a,c1,b,c2,c,c3,e,f,g⟩
section
variable {w : World} {base g c k N lim : Nat} {S : Nat -> zY} {A B D : Nat -> Value}
theorem qC.put3 {l2:zY}{u r s x y z:Option Addr}{G C E H I J:Nat}(h:qC w base (.slice (some ⟨g,0,none⟩) N c) N S A B D)(hk:k<N)(O:A k=.slice u (S k).stn G)(P:B k=.slice r (S k).ron C)(Q:D k=.slice s (S k).sen E)
  (l:∀ i,i<N->(∀ b,(A i).ownBlock=some b->b<lim)/\(∀ b,(B i).ownBlock=some b->b<lim)/\(∀ b,(D i).ownBlock=some b->b<lim)) (o:base<=lim) (p:zaV w lim (S k) l2 u r s G C E x H y I z J) :
  qC (((w.setCell ⟨g,k*3,none⟩ (.slice x l2.stn H)).setCell ⟨g,k*3+1,none⟩ (.slice y l2.ron I)).setCell ⟨g,k*3+2,none⟩ (.slice z l2.sen J)) base (.slice (some ⟨g,0,none⟩) N c) N (zht S k l2) (atV A k (.slice x l2.stn H)) (atV B k (.slice y l2.ron I)) (atV D k (.slice z l2.sen J)):=by
 have M:zx w (((w.setCell ⟨g,k*3,none⟩ (.slice x l2.stn H)).setCell ⟨g,k*3+1,none⟩ (.slice y l2.ron I)).setCell ⟨g,k*3+2,none⟩ (.slice z l2.sen J)) (fun b=>b=g):=(((zx.refl w (fun b=>b=g)).set (a:=⟨g,k*3,none⟩) rfl _).set (a:=⟨g,k*3+1,none⟩) rfl _).set (a:=⟨g,k*3+2,none⟩) rfl _
 have far:∀ {t sz n:Nat} {v:Value} {T:List Value},w.ownsRow base t sz v n T->145≠t->(((w.setCell ⟨g,k*3,none⟩ (.slice x l2.stn H)).setCell ⟨g,k*3+1,none⟩ (.slice y l2.ron I)).setCell ⟨g,k*3+2,none⟩ (.slice z l2.sen J)).ownsRow base t sz v n T:=fun R U=>M.own R (fun q h1 h2=>zI h.row R U q (by rw[show q=g from h2];rfl) h1)
 have m:∀ (F:Nat->Value),atV F k (F k)=F:=fun F=>by
  funext i
  by_cases e:i=k
  ·subst e;exact qu _ _ _
  ·exact qf _ _ _ _ e
 refine⟨zbs (zmM (t:=k) _ _ _ h.row (by unfold ldC;rfl)) (by decide) (fun i f=>?_),fun i f=>?_,fun i f=>?_,fun i f=>?_,?_,?_,?_⟩
 ·by_cases e:i=k
  ·subst e;rw[if_pos rfl];unfold ldC;rw[qu,qu,qu]
  ·rw[if_neg e];unfold ldC;rw[qf _ _ _ _ e,qf _ _ _ _ e,qf _ _ _ _ e]
 ·by_cases e:i=k
  ·subst e
   rw[qu,zbi]
   rcases p.1 with⟨d,K,L⟩|d
   ·refine far ?_ (by decide)
    rw[d,K,L,← O];exact h.st i f
   ·exact far (zu d o) (by decide)
  ·rw[qf _ _ _ _ e,zbj _ _ _ e];exact far (h.st i f) (by decide)
 ·by_cases e:i=k
  ·subst e
   rw[qu,zbi]
   rcases p.2.1 with⟨d,K,L⟩|d
   ·refine far ?_ (by decide)
    rw[d,K,L,← P];exact h.ro i f
   ·exact far (zu d o) (by decide)
  ·rw[qf _ _ _ _ e,zbj _ _ _ e];exact far (h.ro i f) (by decide)
 ·by_cases e:i=k
  ·subst e
   rw[qu,zbi]
   rcases p.2.2 with⟨d,K,L⟩|d
   ·refine far ?_ (by decide)
    rw[d,K,L,← Q];exact h.se i f
   ·exact far (zu d o) (by decide)
  ·rw[qf _ _ _ _ e,zbj _ _ _ e];exact far (h.se i f) (by decide)
 ·rcases p.1 with⟨d,_,_⟩|d
  ·rw[d,← O,m];exact h.far.1
  ·exact h.far.1.put (fun i f b j=>(l i f).1 b j) (fun b j=>(d.lt b j).1)
 ·rcases p.2.1 with⟨d,_,_⟩|d
  ·rw[d,← P,m];exact h.far.2.1
  ·exact h.far.2.1.put (fun i f b j=>(l i f).2.1 b j) (fun b j=>(d.lt b j).1)
 ·rcases p.2.2 with⟨d,_,_⟩|d
  ·rw[d,← Q,m];exact h.far.2.2
  ·exact h.far.2.2.put (fun i f b j=>(l i f).2.2 b j) (fun b j=>(d.lt b j).1)
end
def BehindAns (pe:Nat->Addr)(x:Off)(a:List Wk)(base:Nat)(e:Ending)(w:World):Prop :=
 (∃ (M:Nat->zY) (b:Option Addr) (d:Nat) (A B D:Nat->Value),e=.returned (.slice b x.ldn d)/\zav x a a.length M/\qC w base (.slice b x.ldn d) x.ldn M A B D) ∨
 (∃ (j:Nat) (M:Nat->zY) (v:Wk) (k c:Nat),e=zmK pe c/\1<=c/\c<=8/\zav x a j M/\a[j]?=some v/\zW x.sa v.leg x.san=k/\k<x.san/\qV (x.sa k) v (M k) (c:Int) (M k))
theorem znU (x:Off)(a1 a2 a3:Option Addr)(c1 c2 c3:Nat)(L C A B D E:Nat->Value)(H:List Wk)(aw:Option Addr)(cw base wb:Nat)(pe:Nat->Addr)(w:World)(hO:Zk x)(hs:Off.Short x 1048576)(hd:H.Pairwise zdu)(g6:∀ v ∈ H,Apt x x.ld v/\WkOk x v)(he:qY w pe)
  (b4:zF w base (.slice a1 x.san c1) (.slice a2 x.ldn c2) (.slice a3 x.bkn c3) x.san x.ldn x.bkn x L C A B D E) (g1:base<=w.heap.size) (g5:w.ownsRow wb 268 10 (.slice aw H.length cw) H.length (zgF H)) (j4:H.length<=18) :
  Calls Tryz.prog 108 #[.agg #[.slice a1 x.san c1,.slice a2 x.ldn c2,.slice a3 x.bkn c3],.slice aw H.length cw] w fun e w'=>BehindAns pe x H base e w'/\Below w.heap.size w w':=by
 have HS:=hI hs;have HD:=hI hd;have f8:=hI g6;have h6:=hI hO;have HE:=hI he;have G:=hI b4;have e9:=hI g5;have n7:x.ldn<=1048576:=hs.2.1.1;have n8:x.san<=1048576:=hs.1.1;have g4:x.ldn=x.san:=hO.2.1;have h4:=hI g4;obtain⟨o1,o2,oe,q1,q2,q3⟩:=zp b4.ld.row;simp only[Value.slice.injEq,true_and] at oe;obtain⟨rfl,rfl⟩:=oe;have h7:=hI q3;clear hs hd g6 hO he b4 g5 q1 q2 q3 g4;have P:Below w.heap.size w (w.alloc (.cells #[.slice a1 x.san c1,.slice a2 x.ldn c2,.slice a3 x.bkn c3] 38)):=zk bZ _;have bO:=heap_alloc_new w (.cells #[.slice a1 x.san c1,.slice a2 x.ldn c2,.slice a3 x.bkn c3] 38);go_enter Tryz.func108,Tryz.ntmps108;go_wp2_with fail;generalize w.alloc (.cells #[.slice a1 x.san c1,.slice a2 x.ldn c2,.slice a3 x.bkn c3] 38)=V at P bO ⊢;refine(cloneLoad a2 x.ldn c2 (zdZ A B D x.ldn) V n7 (by unfold zdZ;simp) (ldRow_one (fun i hi=>by obtain⟨a1,c1,a2,c2,a3,c3,e1,e2,e3⟩:=G.out.ld.forms hi;exact⟨a1,_,c1,a2,_,c2,a3,_,c3,e1,e2,e3⟩)) ((zdz G.out.ld.row).below P) h7.out).mono ?_
 rintro e V1 ⟨⟨gv,rfl,ho⟩,d7⟩;obtain⟨ga,gc,rfl,_,_,_⟩:=zp ho;have m:=ze P d7;have O:=zb bO d7;have J:Hid (qC V1 base (.slice ga x.ldn gc) x.ldn x.ld A B D):=⟨zu ho (Nat.le_trans g1 P.size),fun i hi=>zo m (G.out.ld.st i hi),fun i hi=>zo m (G.out.ld.ro i hi),fun i hi=>zo m (G.out.ld.se i hi),G.out.ld.far⟩
 have o:Hid (zav x H 0 x.ld):=zav.start h6.out (fun v hv=>(f8.out v hv).1)
 have e6:=hI ho;have j1:=P.size;clear ho d7 P bO;go_wp2;have e8:Hid (∀ z:World,Below w.heap.size w z->qB z a1 x.san x.sa):=fun z d=>(G.out.sa.below d).at
 have g8:Hid (∀ b,(Value.slice ga x.ldn gc).ownBlock=some b->w.heap.size<=b):=fun b e=>by have h1:=e6.out.lt b e;omega
 go_loopw [7,8,9,15] (fun _ _ _ q wr=>∃ (j:Nat) (M:Nat->zY) (A B D:Nat->Value),j<=H.length/\q=int i64 j/\Hid (zav x H j M)/\Hid (qC wr base (.slice ga x.ldn gc) x.ldn M A B D)/\wr.heap[w.heap.size]?=some (.cells #[.slice a1 x.san c1,.slice a2 x.ldn c2,.slice a3 x.bkn c3] 38 (0,0))/\Below w.heap.size w wr) (fun _ _ _ q _=>H.length - (intOf q).toNat)
 case atStart=>exact⟨0,x.ld,A,B,D,Nat.zero_le _,rfl,o,J,O,m⟩
 case round =>
  clear o J G O m e6 A B D;obtain⟨j,M,A,B,D,hj,rfl,o,J,O,m⟩:=hrel
  by_cases hlt:j<H.length
  ·obtain⟨v,hv⟩:∃ v,H[j]?=some v:=⟨_,List.getElem?_eq_getElem hlt⟩
   have HV:=hI hv;have W:Hid (WkOk x v):=(f8.out v (List.mem_of_getElem? hv)).2;obtain⟨k,e0⟩:∃ k,k=zW x.sa v.leg x.san:=⟨_,rfl⟩;have HK:=hI e0.symm;have hk:k<x.san:=by rw[e0];exact W.out.2.1
   clear e0;obtain⟨T,i7,i9,g2⟩:=qh e9.out (by omega)
   subst i7;have f:∀ r,r<10->wr.cell? ⟨T,j*10+r,none⟩=(wkI v)[r]?:=fun r hr=>by
    rw[m.cell (p:=⟨T,j*10+r,none⟩) g2,e9.out.cellAt (j*10+r) (by omega),zmN H j v hv r hr]
   have c0:wr.cell? ⟨T,j*10,none⟩=some (int i64 v.leg):=f 0 (by decide)
   have c1:wr.cell? ⟨T,j*10+1,none⟩=some (int i64 (v.res:Int)):=f 1 (by decide)
   have c2:wr.cell? ⟨T,j*10+2,none⟩=some (int i64 v.who):=f 2 (by decide)
   have c3:wr.cell? ⟨T,j*10+3,none⟩=some (int i64 v.p.pe):=f 3 (by decide)
   have c4:wr.cell? ⟨T,j*10+4,none⟩=some (int i64 v.p.len):=f 4 (by decide)
   have c5:wr.cell? ⟨T,j*10+5,none⟩=some (int i64 v.p.hei):=f 5 (by decide)
   have c6:wr.cell? ⟨T,j*10+6,none⟩=some (int i64 v.p.cl):=f 6 (by decide)
   have c7:wr.cell? ⟨T,j*10+7,none⟩=some (.bool v.p.all):=f 7 (by decide)
   have c8:wr.cell? ⟨T,j*10+8,none⟩=some (int i64 v.p.be):=f 8 (by decide)
   have c9:wr.cell? ⟨T,j*10+9,none⟩=some (.bool v.goes):=f 9 (by decide)
   clear f hv;have bX:=heap_alloc_new wr (.cells #[int i64 v.leg,int i64 (v.res:Int),int i64 v.who,int i64 v.p.pe,int i64 v.p.len,int i64 v.p.hei,int i64 v.p.cl,.bool v.p.all,int i64 v.p.be,.bool v.goes] 268);have t:=zk m (.cells #[int i64 v.leg,int i64 (v.res:Int),int i64 v.who,int i64 v.p.pe,int i64 v.p.len,int i64 v.p.hei,int i64 v.p.cl,.bool v.p.all,int i64 v.p.be,.bool v.goes] 268);have I:=zd O (.cells #[int i64 v.leg,int i64 (v.res:Int),int i64 v.who,int i64 v.p.pe,int i64 v.p.len,int i64 v.p.hei,int i64 v.p.cl,.bool v.p.all,int i64 v.p.be,.bool v.goes] 268);have c:Hid (qC (wr.alloc (.cells #[int i64 v.leg,int i64 (v.res:Int),int i64 v.who,int i64 v.p.pe,int i64 v.p.len,int i64 v.p.hei,int i64 v.p.cl,.bool v.p.all,int i64 v.p.be,.bool v.goes] 268)) base (.slice ga x.ldn gc) x.ldn M A B D):=J.out.below (zk bZ _);go_upto_region 5 with fail;generalize wr.alloc (.cells #[int i64 v.leg,int i64 (v.res:Int),int i64 v.who,int i64 v.p.pe,int i64 v.p.len,int i64 v.p.hei,int i64 v.p.cl,.bool v.p.all,int i64 v.p.be,.bool v.goes] 268)=Y at bX t I c ⊢;generalize hwx:wr.heap.size=n at bX ⊢;have j0:w.heap.size<n:=by have:=zM O;omega
   clear c0 c1 c2 c3 c4 c5 c6 c7 c8 c9 m O J hwx wr;have y0:=za I 0 _ rfl;have y1:=za bX 0 _ rfl;go_wp2_with fail;clear y0 y1;refine(zaF a1 x.san c1 x.sa v.leg Y n8 (e8.out Y t)).mono ?_;rintro e Z ⟨b5,a9⟩;replace b5:e=.returned (.tuple #[int i64 (k:Int),.bool true]):=by
    rw[HK.out] at b5
    rcases b5 with⟨_,q⟩|⟨q,_⟩
    ·exact q
    ·omega
   subst b5;replace bX:=zb bX a9;replace t:=ze t a9;replace I:=zb I a9;replace c:=hI (c.out.below a9);clear a9 Y;have e4:k<x.ldn:=by have:=h4.out;omega
   obtain⟨g,i8,j2,j3⟩:=qh c.out.row (by omega)
   subst i8;have d9:w.heap.size<=g:=g8.out g rfl;obtain⟨u,y,d4,d6,d0,d5,rfl,f0,f1,f2,f3,f4,f5,f6,f7,e5,d8,_,_⟩:=e8.out Z t k hk;obtain⟨s,b6⟩:∃ s,s=x.sa k:=⟨_,rfl⟩;rw[← b6] at f0 f1 f2 f3 f4 f5 f6 f7 e5 d8;have b8:=hI b6;have h0:=hI e5;have g7:=hI d8;have i3:Hid (s.la.n<=1048576/\s.ca.n<=1048576):=by rw[b6];exact⟨(HS.out.1.2 k hk).2.2.1,(HS.out.1.2 k hk).2.2.2⟩
   obtain⟨l,S⟩:∃ l,l=M k:=⟨_,rfl⟩;have F:=hI S;obtain⟨a5,a8,a0,a6,a4,a7,e1,e2,e3⟩:=c.out.forms e4;have b0:=c.out.is e4;have l0:=zs c.out.row (k*3+0) (by omega) rfl
   have l1:=zs c.out.row (k*3+1) (by omega) rfl
   have l2:=zs c.out.row (k*3+2) (by omega) rfl
   rw[zC 3 _ k _ (by decide)] at l0 l1 l2
   unfold ldC at l0 l1 l2 b0;rw[e1,e2,e3] at b0;replace l0:Z.cell? ⟨g,k*3,none⟩=some (A k):=l0;replace l1:Z.cell? ⟨g,k*3+1,none⟩=some (B k):=l1;replace l2:Z.cell? ⟨g,k*3+2,none⟩=some (D k):=l2;rw[e1,← S] at l0;rw[e2,← S] at l1;rw[e3,← S] at l2;rw[← S] at b0 e1 e2 e3;have g9:=hI b0;have b7:Hid (A k=.slice a5 l.stn a8/\B k=.slice a0 l.ron a6/\D k=.slice a4 l.sen a7):=⟨e1,e2,e3⟩;clear b6 S b0 e1 e2 e3 e5 d8;have i0:(0:Int)<=(k:Int):=by omega
   have i1:(k:Int)<(x.san:Int):=by omega
   have i2:(k:Int)<(x.ldn:Int):=by omega
   have y0:=za I 0 _ rfl;obtain⟨x0,x1,x2,x3,x4,x5,x6,x7,x8,x9⟩:=ce10 bX;have b9:Hid (∀ z:World,Below Z.heap.size Z z->z.cell? ⟨n,0,none⟩=some (int i64 v.leg)/\z.cell? ⟨n,1,none⟩=some (int i64 (v.res:Int))/\z.cell? ⟨n,2,none⟩=some (int i64 v.who)/\z.cell? ⟨n,3,none⟩=some (int i64 v.p.pe)/\z.cell? ⟨n,4,none⟩=some (int i64 v.p.len)/\z.cell? ⟨n,5,none⟩=some (int i64 v.p.hei)/\z.cell? ⟨n,6,none⟩=some (int i64 v.p.cl)/\z.cell? ⟨n,7,none⟩=some (.bool v.p.all)/\z.cell? ⟨n,8,none⟩=some (int i64 v.p.be)/\z.cell? ⟨n,9,none⟩=some (.bool v.goes)/\z.cell? ⟨w.heap.size,0,none⟩=some (.slice (some ⟨u,y,none⟩) x.san c1)/\z.cell? ⟨u,y+k*8,none⟩=some (int i64 s.id)/\z.cell? ⟨u,y+k*8+1,none⟩=some (.string s.fr)/\z.cell? ⟨u,y+k*8+2,none⟩=some (.string s.dst)/\z.cell? ⟨u,y+k*8+3,none⟩=some (int i64 s.dep)/\z.cell? ⟨u,y+k*8+4,none⟩=some (int i64 s.arr)/\z.cell? ⟨u,y+k*8+5,none⟩=some (.slice d4 s.la.n d6)/\z.cell? ⟨u,y+k*8+6,none⟩=some (.slice d0 s.ca.n d5)/\z.cell? ⟨u,y+k*8+7,none⟩=some (int i64 s.most)/\z.cell? ⟨g,k*3,none⟩=some (.slice a5 l.stn a8)/\z.cell? ⟨g,k*3+1,none⟩=some (.slice a0 l.ron a6)/\z.cell? ⟨g,k*3+2,none⟩=some (.slice a4 l.sen a7)):=fun z d=>⟨(d.cell (World.block_lt_of_cell? Z _ x0)).trans x0,(d.cell (World.block_lt_of_cell? Z _ x1)).trans x1,(d.cell (World.block_lt_of_cell? Z _ x2)).trans x2,(d.cell (World.block_lt_of_cell? Z _ x3)).trans x3,(d.cell (World.block_lt_of_cell? Z _ x4)).trans x4,(d.cell (World.block_lt_of_cell? Z _ x5)).trans x5,(d.cell (World.block_lt_of_cell? Z _ x6)).trans x6,(d.cell (World.block_lt_of_cell? Z _ x7)).trans x7,(d.cell (World.block_lt_of_cell? Z _ x8)).trans x8,(d.cell (World.block_lt_of_cell? Z _ x9)).trans x9,(d.cell (World.block_lt_of_cell? Z _ y0)).trans y0,(d.cell (World.block_lt_of_cell? Z _ f0)).trans f0,(d.cell (World.block_lt_of_cell? Z _ f1)).trans f1,(d.cell (World.block_lt_of_cell? Z _ f2)).trans f2,(d.cell (World.block_lt_of_cell? Z _ f3)).trans f3,(d.cell (World.block_lt_of_cell? Z _ f4)).trans f4,(d.cell (World.block_lt_of_cell? Z _ f5)).trans f5,(d.cell (World.block_lt_of_cell? Z _ f6)).trans f6,(d.cell (World.block_lt_of_cell? Z _ f7)).trans f7,(d.cell (World.block_lt_of_cell? Z _ l0)).trans l0,(d.cell (World.block_lt_of_cell? Z _ l1)).trans l1,(d.cell (World.block_lt_of_cell? Z _ l2)).trans l2⟩
   clear y0 x0 x1 x2 x3 x4 x5 x6 x7 x8 x9 f0 f1 f2 f3 f4 f5 f6 f7 l0 l1 l2;go_upto_region 6 with fail;refine qg 14 15 (fun w'=>w'.cell? ⟨n,0,none⟩=some (int i64 v.leg)/\w'.cell? ⟨n,1,none⟩=some (int i64 (v.res:Int))/\w'.cell? ⟨n,2,none⟩=some (int i64 v.who)/\w'.cell? ⟨n,3,none⟩=some (int i64 v.p.pe)/\w'.cell? ⟨n,4,none⟩=some (int i64 v.p.len)/\w'.cell? ⟨n,5,none⟩=some (int i64 v.p.hei)/\w'.cell? ⟨n,6,none⟩=some (int i64 v.p.cl)/\w'.cell? ⟨n,7,none⟩=some (.bool v.p.all)/\w'.cell? ⟨n,8,none⟩=some (int i64 v.p.be)/\w'.cell? ⟨n,9,none⟩=some (.bool v.goes)/\w'.cell? ⟨w.heap.size,0,none⟩=some (.slice (some ⟨u,y,none⟩) x.san c1)/\w'.cell? ⟨u,y+k*8,none⟩=some (int i64 s.id)/\w'.cell? ⟨u,y+k*8+1,none⟩=some (.string s.fr)/\w'.cell? ⟨u,y+k*8+2,none⟩=some (.string s.dst)/\w'.cell? ⟨u,y+k*8+3,none⟩=some (int i64 s.dep)/\w'.cell? ⟨u,y+k*8+4,none⟩=some (int i64 s.arr)/\w'.cell? ⟨u,y+k*8+5,none⟩=some (.slice d4 s.la.n d6)/\w'.cell? ⟨u,y+k*8+6,none⟩=some (.slice d0 s.ca.n d5)/\w'.cell? ⟨u,y+k*8+7,none⟩=some (int i64 s.most)/\w'.cell? ⟨g,k*3,none⟩=some (.slice a5 l.stn a8)/\w'.cell? ⟨g,k*3+1,none⟩=some (.slice a0 l.ron a6)/\w'.cell? ⟨g,k*3+2,none⟩=some (.slice a4 l.sen a7)) rfl (by kernel_rfl) (b9.out _ bZ.drew) (fun hS=>?_)
   simp only[List.replicate_succ,List.replicate_zero]
   (refine tkL 0 (v:=?_) rfl (by kernel_rfl) (fun _ _ _ h=>h) rfl (by assumption) ?_ ?_;rotate_left;(focus(intro w' h;(try dsimp only at h);go_simp;try with_reducible rfl));simp only[Act.put,sB,sZ,sS])
   (refine tkL 1 (v:=?_) rfl (by kernel_rfl) (fun _ _ _ h=>h) rfl (by assumption) ?_ ?_;rotate_left;(focus(intro w' h;(try dsimp only at h);go_simp;try with_reducible rfl));simp only[Act.put,sB,sZ,sS])
   (refine tkL 2 (v:=?_) rfl (by kernel_rfl) (fun _ _ _ h=>h) rfl (by assumption) ?_ ?_;rotate_left;(focus(intro w' h;(try dsimp only at h);go_simp;try with_reducible rfl));simp only[Act.put,sB,sZ,sS])
   (refine tkL 3 (v:=?_) rfl (by kernel_rfl) (fun _ _ _ h=>h) rfl (by assumption) ?_ ?_;rotate_left;(focus(intro w' h;(try dsimp only at h);go_simp;try with_reducible rfl));simp only[Act.put,sB,sZ,sS])
   (refine tkL 4 (v:=?_) rfl (by kernel_rfl) (fun _ _ _ h=>h) rfl (by assumption) ?_ ?_;rotate_left;(focus(intro w' h;(try dsimp only at h);go_simp;try with_reducible rfl));simp only[Act.put,sB,sZ,sS])
   (refine tkL 5 (v:=?_) rfl (by kernel_rfl) (fun _ _ _ h=>h) rfl (by assumption) ?_ ?_;rotate_left;(focus(intro w' h;(try dsimp only at h);go_simp;try with_reducible rfl));simp only[Act.put,sB,sZ,sS])
   (refine tkL 6 (v:=?_) rfl (by kernel_rfl) (fun _ _ _ h=>h) rfl (by assumption) ?_ ?_;rotate_left;(focus(intro w' h;(try dsimp only at h);go_simp;try with_reducible rfl));simp only[Act.put,sB,sZ,sS])
   (refine tkL 7 (v:=?_) rfl (by kernel_rfl) (fun _ _ _ h=>h) rfl (by assumption) ?_ ?_;rotate_left;(focus(intro w' h;(try dsimp only at h);go_simp;try with_reducible rfl));simp only[Act.put,sB,sZ,sS])
   (refine tkL 8 (v:=?_) rfl (by kernel_rfl) (fun _ _ _ h=>h) rfl (by assumption) ?_ ?_;rotate_left;(focus(intro w' h;(try dsimp only at h);go_simp;try with_reducible rfl));simp only[Act.put,sB,sZ,sS])
   (refine tkL 9 (v:=?_) rfl (by kernel_rfl) (fun _ _ _ h=>h) rfl (by assumption) ?_ ?_;rotate_left;(focus(intro w' h;(try dsimp only at h);go_simp;try with_reducible rfl));simp only[Act.put,sB,sZ,sS])
   (refine tkL 10 (v:=?_) rfl (by kernel_rfl) (fun _ _ _ h=>h) rfl (by assumption) ?_ ?_;rotate_left;(focus(intro w' h;(try dsimp only at h);go_simp;try with_reducible rfl));simp only[Act.put,sB,sZ,sS])
   (refine tkL 11 (v:=?_) rfl (by kernel_rfl) (fun _ _ _ h=>h) rfl (by assumption) ?_ ?_;rotate_left;(focus(intro w' h;(try dsimp only at h);go_simp;try with_reducible rfl));simp only[Act.put,sB,sZ,sS])
   refine zj (rs:=[12]) (by kernel_rfl) (by simp) ?_
   refine zc.consL rfl (fun K hK=>?_) zc.nil
   go_simp;go_at_call 199;have R:Below Z.heap.size Z Z.drew:=bZ.drew;refine Calls.mono (done_any s v l d4 d0 a5 a0 a4 d6 d5 a8 a6 a7 pe Z.drew (HE.out.below (ze t R)) (by rw[b8.out,F.out];exact o.out.good k hk) W.out.1 W.out.2.2 ?_ i3.out (h0.out.below R) (g7.out.below R) (g9.out.below R)) ?_
   ·rw[F.out]
    split
    ·rename_i hg;exact o.out.there HV.out HK.out hk hg
    ·rename_i hg;exact(o.out.comes HV.out HK.out hk W.out (by simpa using hg)).2.2.2
   rintro e U ⟨g0,i6⟩;have Q:=ze R i6
   rcases g0 with⟨l2,b1,d1,b2,d2,b3,d3,rfl,hW,f9⟩|⟨cd,h1,h8,rfl,hW⟩
   ·dsimp only
    have N:Hid (qC U base (.slice (some ⟨g,0,none⟩) x.ldn gc) x.ldn M A B D):=c.out.below Q;have e7:Hid _:=N.out.put3 (lim:=Z.drew.heap.size) (l2:=l2) e4 (by rw[← F.out];exact b7.out.1) (by rw[← F.out];exact b7.out.2.1) (by rw[← F.out];exact b7.out.2.2) (fun i hi=>⟨fun b e=>((c.out.st i hi).lt b e).2,fun b e=>((c.out.ro i hi).lt b e).2,fun b e=>((c.out.se i hi).lt b e).2⟩) (Nat.le_trans g1 (ze t R).size) (by rw[← F.out];exact f9)
    have h5:Hid (zav x H (j+1) (zht M k l2)):=o.out.next HD.out HV.out HK.out hk W.out (by rw[← b8.out,← F.out];exact hW)
    have g3:zx U (((U.setCell ⟨g,k*3,none⟩ (.slice b1 l2.stn d1)).setCell ⟨g,k*3+1,none⟩ (.slice b2 l2.ron d2)).setCell ⟨g,k*3+2,none⟩ (.slice b3 l2.sen d3)) (fun b=>b=g):=(((zx.refl U (fun b=>b=g)).set (a:=⟨g,k*3,none⟩) rfl _).set (a:=⟨g,k*3+1,none⟩) rfl _).set (a:=⟨g,k*3+2,none⟩) rfl _
    have i4:=g3.blk (zb I Q) (show ¬ w.heap.size=g from fun e=>by obtain⟨cs,e2⟩:=zA N.out.row g rfl;rw[← e,zb I Q] at e2;simp at e2)
    have i5:Below w.heap.size w (((U.setCell ⟨g,k*3,none⟩ (.slice b1 l2.stn d1)).setCell ⟨g,k*3+1,none⟩ (.slice b2 l2.ron d2)).setCell ⟨g,k*3+2,none⟩ (.slice b3 l2.sen d3)):=(((ze t Q).setCell (p:=⟨g,k*3,none⟩) d9 _).setCell (p:=⟨g,k*3+1,none⟩) d9 _).setCell (p:=⟨g,k*3+2,none⟩) d9 _;have X:=b9.out U Q;have z0:U.cell? ⟨g,k*3,none⟩=some (.slice a5 l.stn a8):=X.2.2.2.2.2.2.2.2.2.2.2.2.2.2.2.2.2.2.2.1;have z1:U.cell? ⟨g,k*3+1,none⟩=some (.slice a0 l.ron a6):=X.2.2.2.2.2.2.2.2.2.2.2.2.2.2.2.2.2.2.2.2.1;have z2:U.cell? ⟨g,k*3+2,none⟩=some (.slice a4 l.sen a7):=X.2.2.2.2.2.2.2.2.2.2.2.2.2.2.2.2.2.2.2.2.2;have q0:=N.out.row.frozenAt (k*3);have q1:=N.out.row.frozenAt (k*3+1);have q2:=N.out.row.frozenAt (k*3+2);refine hK.out _ _ X (fun hS=>?_)
    clear hK K X;simp only[sZ,sS]
    (refine tkL 13 (v:=?_) rfl (by kernel_rfl) (fun _ _ _ h=>h) rfl (by assumption) ?_ ?_;rotate_left;(focus(intro w' h;(try dsimp only at h);go_simp;try with_reducible rfl));simp only[Act.put,sB,sZ,sS])
    refine zj (rs:=[14]) (by kernel_rfl) (by simp) ?_
    refine zc.lastL rfl (fun K hK=>?_)
    go_simp;refine hK.out _ _ ?_;clear hK K g3 c N b9 hS z0 z1 z2 q0 q1 q2 hW f9;refine zX (by kernel_rfl) ?_ _
    go_wp2;go_roundw
    case rel=>exact⟨j+1,zht M k l2,_,_,_,by omega,by go_num,h5,e7,i4,i5⟩
    case measure=>simp[intOf];omega
   ·unfold zmK
    dsimp only;exact⟨rfl,.inr ⟨j,M,v,k,cd,rfl,h1,h8,o.out,HV.out,HK.out,hk,by rw[← b8.out,← F.out];exact hW⟩,ze t Q⟩
  ·obtain rfl:j=H.length:=by omega
   go_wp2;go_ret;exact⟨.inl ⟨M,ga,gc,A,B,D,rfl,o.out,J.out⟩,m⟩
end
theorem znV (x y:Int)(w:World) :
  Calls Tryz.prog 225 #[int i64 x,int i64 y] w fun e w'=>e=.returned (int i64 (Ql x y))/\w'=w:=by
 obtain⟨V,f⟩:∃ V,V=Ql x y:=⟨_,rfl⟩;rw[← f];have b:=hI f;clear f
 by_cases h0:zbA x y
 ·have j:decide (zbA x y)=true:=decide_eq_true h0
  have c:=hI h0;have i:=hI h0.1;clear h0
  by_cases h1:600<x
  ·have k:decide (600<x)=true:=decide_eq_true h1
   have h2:450<x:=by omega
   have g:decide (450<x)=true:=decide_eq_true h2;have h:=i.out;unfold In at h;have l:IntKind.i64.wrap (x - 600)=x - 600:=by rw[IntKind.wrap_i64];omega
   have m:IntKind.i64.wrap (x - 600+99)=x - 600+99:=by rw[IntKind.wrap_i64];omega
   have hq:Int.tdiv (x - 600+99) 100=(x - 600+99) / 100:=by rw[Int.tdiv_eq_ediv_of_nonneg (by omega)]
   have n:IntKind.i64.wrap ((x - 600+99) / 100)=(x - 600+99) / 100:=by rw[IntKind.wrap_i64];omega
   have o:IntKind.i64.wrap (25*((x - 600+99) / 100))=25*((x - 600+99) / 100):=by rw[IntKind.wrap_i64];omega
   have p:IntKind.i64.wrap (90+25*((x - 600+99) / 100))=90+25*((x - 600+99) / 100):=by rw[IntKind.wrap_i64];omega
   have q:IntKind.i64.wrap (90+25*((x - 600+99) / 100)+30)=90+25*((x - 600+99) / 100)+30:=by rw[IntKind.wrap_i64];omega
   clear h
   by_cases h5:220<y
   ·have d:decide (220<y)=true:=decide_eq_true h5
    have a:Hid (V=90+25*((x - 600+99) / 100)+30):=by show V=90+25*((x - 600+99) / 100)+30;rw[b.out];unfold Ql;rw[if_pos c.out];simp only[if_pos h1,if_pos h5];(try omega)
    rw[a.out];go_enter Tryz.func225,Tryz.ntmps225;go_wp2_with (first|(go_at_call 224;refine sC (Zc _ _ _) ?_))
    go_ret;exact⟨rfl,rfl⟩
   ·have d:decide (220<y)=false:=decide_eq_false h5
    have a:Hid (V=90+25*((x - 600+99) / 100)):=by show V=90+25*((x - 600+99) / 100);rw[b.out];unfold Ql;rw[if_pos c.out];simp only[if_pos h1,if_neg h5];(try omega)
    rw[a.out];go_enter Tryz.func225,Tryz.ntmps225;go_wp2_with (first|(go_at_call 224;refine sC (Zc _ _ _) ?_))
    go_ret;exact⟨rfl,rfl⟩
  ·have k:decide (600<x)=false:=decide_eq_false h1
   by_cases h2:450<x
   ·have g:decide (450<x)=true:=decide_eq_true h2
    by_cases h5:220<y
    ·have d:decide (220<y)=true:=decide_eq_true h5
     have a:Hid (V=90+30):=by show V=90+30;rw[b.out];unfold Ql;rw[if_pos c.out];simp only[if_neg h1,if_pos h2,if_pos h5];(try omega)
     rw[a.out];go_enter Tryz.func225,Tryz.ntmps225;go_wp2_with (first|(go_at_call 224;refine sC (Zc _ _ _) ?_))
     go_ret;exact⟨rfl,rfl⟩
    ·have d:decide (220<y)=false:=decide_eq_false h5
     have a:Hid (V=90):=by show V=90;rw[b.out];unfold Ql;rw[if_pos c.out];simp only[if_neg h1,if_pos h2,if_neg h5];(try omega)
     rw[a.out];go_enter Tryz.func225,Tryz.ntmps225;go_wp2_with (first|(go_at_call 224;refine sC (Zc _ _ _) ?_))
     go_ret;exact⟨rfl,rfl⟩
   ·have g:decide (450<x)=false:=decide_eq_false h2
    by_cases h5:220<y
    ·have d:decide (220<y)=true:=decide_eq_true h5
     have a:Hid (V=60+30):=by show V=60+30;rw[b.out];unfold Ql;rw[if_pos c.out];simp only[if_neg h1,if_neg h2,if_pos h5];(try omega)
     rw[a.out];go_enter Tryz.func225,Tryz.ntmps225;go_wp2_with (first|(go_at_call 224;refine sC (Zc _ _ _) ?_))
     go_ret;exact⟨rfl,rfl⟩
    ·have d:decide (220<y)=false:=decide_eq_false h5
     have a:Hid (V=60):=by show V=60;rw[b.out];unfold Ql;rw[if_pos c.out];simp only[if_neg h1,if_neg h2,if_neg h5];(try omega)
     rw[a.out];go_enter Tryz.func225,Tryz.ntmps225;go_wp2_with (first|(go_at_call 224;refine sC (Zc _ _ _) ?_))
     go_ret;exact⟨rfl,rfl⟩
 ·have j:decide (zbA x y)=false:=decide_eq_false h0
  have a:Hid (V=0):=by rw[b.out];exact if_neg h0
  rw[a.out];clear h0;go_enter Tryz.func225,Tryz.ntmps225;go_wp2_with (first|(go_at_call 224;refine sC (Zc _ _ _) ?_))
  go_ret;exact⟨rfl,rfl⟩
theorem zje (cl:Int)(all:Bool)(be:Int)(w:World) :
  Calls Tryz.prog 226 #[int i64 cl,.bool all,int i64 be] w fun e w'=>e=.returned (int i64 (Zs cl all be))/\Below w.heap.size w w':=by
 obtain⟨V,f⟩:∃ V,V=Zs cl all be:=⟨_,rfl⟩;rw[← f];have b:=hI f;clear f
 by_cases h1:In cl 1 3
 ·have j:decide (In cl 1 3)=true:=decide_eq_true h1
  have c:=hI h1
  cases all with
  | true =>
   by_cases h2:be=0
   ·subst h2
    have h3:cl=1∨cl=2∨cl=3:=by unfold In at h1;omega
    clear h1
    rcases h3 with rfl|rfl|rfl
    ·have a:Hid (V=90):=by show V=90;rw[b.out];exact if_pos ⟨c.out,.inl ⟨rfl,rfl⟩⟩
     rw[a.out];go_enter Tryz.func226,Tryz.ntmps226;go_wp2_with (first|(go_at_call 148;refine sC (zt _ _ _ _) ?_))
     go_ret;exact⟨rfl,zk bZ _⟩
    ·have a:Hid (V=150):=by show V=150;rw[b.out];exact if_pos ⟨c.out,.inl ⟨rfl,rfl⟩⟩
     rw[a.out];go_enter Tryz.func226,Tryz.ntmps226;go_wp2_with (first|(go_at_call 148;refine sC (zt _ _ _ _) ?_))
     go_ret;exact⟨rfl,zk bZ _⟩
    ·have a:Hid (V=240):=by show V=240;rw[b.out];exact if_pos ⟨c.out,.inl ⟨rfl,rfl⟩⟩
     rw[a.out];go_enter Tryz.func226,Tryz.ntmps226;go_wp2_with (first|(go_at_call 148;refine sC (zt _ _ _ _) ?_))
     go_ret;exact⟨rfl,zk bZ _⟩
   ·have g:(be == 0)=false:=by simpa using h2
    have e3:(be != 0)=true:=by simpa using h2
    have a:Hid (V=0):=by rw[b.out];exact if_neg (fun h=>by rcases h.2 with h|h;exact h2 h.2;cases h.1)
    rw[a.out];clear h1 h2;go_enter Tryz.func226,Tryz.ntmps226;go_wp2_with (first|(go_at_call 148;refine sC (zt _ _ _ _) ?_))
    go_ret;exact⟨rfl,bZ⟩
  | false =>
   by_cases h2:In be 1 4
   ·have g:decide (In be 1 4)=true:=decide_eq_true h2
    have d:=hI h2;have h3:cl=1∨cl=2∨cl=3:=by unfold In at h1;omega
    have h4:1<=be/\be<=4:=h2;clear h1 h2
    rcases h3 with rfl|rfl|rfl
    ·have a:Hid (V=30*be):=by show V=30*be;rw[b.out];unfold Zs;rw[if_pos ⟨c.out,.inr ⟨rfl,d.out⟩⟩];rfl
     rw[a.out];have i:IntKind.i64.wrap (30*be)=30*be:=by rw[IntKind.wrap_i64];omega
     go_enter Tryz.func226,Tryz.ntmps226;go_wp2_with (first|(go_at_call 148;refine sC (zt _ _ _ _) ?_))
     go_ret;exact⟨rfl,zk bZ _⟩
    ·have a:Hid (V=50*be):=by show V=50*be;rw[b.out];unfold Zs;rw[if_pos ⟨c.out,.inr ⟨rfl,d.out⟩⟩];rfl
     rw[a.out];have i:IntKind.i64.wrap (50*be)=50*be:=by rw[IntKind.wrap_i64];omega
     go_enter Tryz.func226,Tryz.ntmps226;go_wp2_with (first|(go_at_call 148;refine sC (zt _ _ _ _) ?_))
     go_ret;exact⟨rfl,zk bZ _⟩
    ·have a:Hid (V=80*be):=by show V=80*be;rw[b.out];unfold Zs;rw[if_pos ⟨c.out,.inr ⟨rfl,d.out⟩⟩];rfl
     rw[a.out];have i:IntKind.i64.wrap (80*be)=80*be:=by rw[IntKind.wrap_i64];omega
     go_enter Tryz.func226,Tryz.ntmps226;go_wp2_with (first|(go_at_call 148;refine sC (zt _ _ _ _) ?_))
     go_ret;exact⟨rfl,zk bZ _⟩
   ·have g:decide (In be 1 4)=false:=decide_eq_false h2
    have a:Hid (V=0):=by rw[b.out];exact if_neg (fun h=>by rcases h.2 with h|h;cases h.1;exact h2 h.2)
    rw[a.out];clear h1 h2;go_enter Tryz.func226,Tryz.ntmps226;go_wp2_with (first|(go_at_call 148;refine sC (zt _ _ _ _) ?_))
    go_ret;exact⟨rfl,bZ⟩
 ·have j:decide (In cl 1 3)=false:=decide_eq_false h1
  have a:Hid (V=0):=by rw[b.out];exact if_neg (fun h=>h1 h.1)
  rw[a.out];clear h1
  cases all with
  | true =>
   go_enter Tryz.func226,Tryz.ntmps226;go_wp2_with (first|(go_at_call 148;refine sC (zt _ _ _ _) ?_))
   go_ret;exact⟨rfl,bZ⟩
  | false =>
   go_enter Tryz.func226,Tryz.ntmps226;go_wp2_with (first|(go_at_call 148;refine sC (zt _ _ _ _) ?_))
   go_ret;exact⟨rfl,bZ⟩
end Go.Proofs.YtmdnjgihooflfaaGreatDoor
