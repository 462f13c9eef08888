import Derived.Test.YtmdnjgihooflfaaGreatDoorB13
import Derived.Test.YtmdnjgihooflfaaGreatDoorB15
import Derived.Test.YtmdnjgihooflfaaGreatDoorB14
import Derived.Test.YtmdnjgihooflfaaGreatDoorB01
import Derived.Test.YtmdnjgihooflfaaGreatDoorB16
namespace Go.Proofs.YtmdnjgihooflfaaGreatDoor
open Go.RowKit
open Go.Value (int)
open Go.IntKind (i64)
open _root_.Go.Proofs.Tryz
set_option maxHeartbeats 64000000
set_option maxRecDepth 1000000
variable{w u:World}{g t m k n i:Nat}{u0 u1 u2:Value}{q:Int}{l:zw}
theorem AI (w:World)(a b c:Obj):(((w.alloc a).alloc b).alloc c).heap[w.heap.size]?=some a/\(((w.alloc a).alloc b).alloc c).heap[w.heap.size+1]?=some b/\(((w.alloc a).alloc b).alloc c).heap[w.heap.size+2]?=some c/\(((w.alloc a).alloc b).alloc c).heap.size=w.heap.size+3:=by
 refine⟨zg (zg (Jb w a) b) c,zg (by simpa using Jb (w.alloc a) b) c,by simpa using Jb ((w.alloc a).alloc b) c,by simp⟩
theorem Lc (h:w.heap[g]?=some (.cells #[u0,u1,u2] t (0,0)))(v:Value) :
  (w.setCell (g,0) v).heap[g]?=some (.cells #[v,u1,u2] t (0,0))/\(w.setCell (g,1) v).heap[g]?=some (.cells #[u0,v,u2] t (0,0))/\(w.setCell (g,2) v).heap[g]?=some (.cells #[u0,u1,v] t (0,0)) :=
 ⟨by simpa using zk h 0 v,by simpa using zk h 1 v,by simpa using zk h 2 v⟩
theorem BN (h:w.heap[g]?=some (.cells #[u0,u1,u2] t (0,0)))(v0 v1 v2:Value):(((w.setCell (g,0) v0).setCell (g,1) v1).setCell (g,2) v2).heap[g]?=some (.cells #[v0,v1,v2] t (0,0)):=by
 simpa using zk (zk (zk h 0 v0) 1 v1) 2 v2
theorem kl (v:Wk)(l:zw)(i c d:Option Addr)(s f g r:Nat)(w:World)(X:v.j3=0)(Z:l.r<=1048576)(hr:r<l.r)(W:(l.K r).e=v.e)(D:∀ j,j<l.r->(l.K j).e=v.e->j=r)(hx:qx w i l.r l.K) :
  Calls prog 249 #[.agg #[int i64 v.j5,int i64 (v.j3:Int),int i64 v.e,int i64 v.p.v,int i64 v.p.f,int i64 v.p.j,int i64 v.p.w,.bool v.p.h,int i64 v.p.x,.bool v.E],.agg #[.slice i l.r s,.slice c l.m f,.slice d l.t g]] w λe w'=>(∃ m n,e=.returned (.agg #[.slice m (l.r - 1) n,.slice c l.m f,.slice d l.t g])/\w'.ownsRow w 220 4 (.slice m (l.r - 1) n) (l.r - 1) (zH (ZN l.K r) (l.r - 1)))/\Below w w w':=by
 have L:(v.j3:Int)=0:=oM;rw[L];clear L X;obtain⟨G,F,I,J⟩:=AI w (.cells #[v.j5,(),v.e,v.p.v,v.p.f,v.p.j,v.p.w,v.p.h,v.p.x,v.E] 268) (.cells #[(i,l.r,s),(c,l.m,f),(d,l.t,g)] 145) (.cells #[True,True,True] 145);have k:Below _ w (((w.alloc (.cells #[v.j5,(),v.e,v.p.v,v.p.f,v.p.j,v.p.w,v.p.h,v.p.x,v.E] 268)).alloc (.cells #[(i,l.r,s),(c,l.m,f),(d,l.t,g)] 145)).alloc (.cells #[True,True,True] 145)):=zd (zd (zd bZ _) _) _;go_enter func249,ntmps249;go_upto_region 1 with fail;generalize ((w.alloc _).alloc _).alloc _=V at G F I J k ⊢;have y1:=bC G 1;have M:=bC G 2;have Q:=bC F 0;go_wp2_with fail;clear y1 Q;refine(TO i _ s _ _ r _ V Z hr W D (hx.j0 k) M).mono ?_;rintro e E ⟨⟨u,rfl,H⟩,t⟩;obtain⟨m,n,rfl,_⟩:=zn H;have o:=za F t;have B:=za I t;have q0:=bC o 0;have U:=zc o 0;have C:=zb k t;have A:zl E (E.setCell _ (m,l.r - 1,n)) _:=(zl.refl E (λb=>b=w.heap.size+1)).set (a:=⟨_,0,none⟩) rfl _
 have y:=(Lc o (m,l.r - 1,n)).1;have h:=A.blk B (show ¬ w.heap.size+2=w.heap.size+1 by omega)
 have z:=C.setCell (p:=(w.heap.size+1,0)) (show w.heap.size<=w.heap.size+1 by omega) (m,l.r - 1,n)
 have x:=A.j1 (zo H k.size) (λq h1 h2=>by have h2:=h2;have:=(World.ownsRow.lt H q h1).1;omega)
 go_upto_region 8 with fail;generalize E.setCell _ _=Y at y h z x ⊢;clear q0 U A o B C H t F I G k M;obtain⟨l0,l1,l2⟩:=ZE y;obtain⟨r0,r1,r2⟩:=ZE h;obtain⟨R,S,T⟩:=FM h;have P:=hI (BN h (m,l.r - 1,n) (c,l.m,f) (d,l.t,g));have N:Hid (Below _ w (((Y.setCell _ (m,l.r - 1,n)).setCell _ (c,l.m,f)).setCell _ (d,l.t,g))):=((z.setCell (p:=⟨_,0,none⟩) (by show _<=w.heap.size+2;omega) _).setCell (p:=⟨_,1,none⟩) (by show _<=w.heap.size+2;omega) _).setCell (p:=⟨_,2,none⟩) (by show _<=w.heap.size+2;omega) _
 have O:Hid ((((Y.setCell _ (m,l.r - 1,n)).setCell _ (c,l.m,f)).setCell _ (d,l.t,g)).ownsRow _ 220 4 _ _ _):=((((zl.refl Y _).set (a:=⟨_,0,none⟩) rfl _).set (a:=⟨_,1,none⟩) rfl _).set (a:=⟨_,2,none⟩) rfl _).j1 x (λq h1 h2=>by have h2:=h2;subst h2;obtain⟨cs,K⟩:=zC x _ h1;rw[h] at K;simp at K)
 clear y h z x;go_wp2;clear l0 l1 l2 r0 r1 r2 R S T;obtain⟨z0,z1,z2⟩:=ZE P;exact Jj (by simp[results,results249,go_sem,z0,z1,z2]) rfl ⟨⟨m,n,rfl,O⟩,N⟩
theorem km (v:Wk)(l:zw)(d i c:Option Addr)(g s f r:Nat)(w:World)(X:v.j3=1)(Z:l.m<=1048576)(hr:r<l.m)(W:(l.I r).e=v.e)(D:∀ j,j<l.m->(l.I j).e=v.e->j=r)(hx:qn w i l.m l.I) :
  Calls prog 249 #[.agg #[int i64 v.j5,int i64 (v.j3:Int),int i64 v.e,int i64 v.p.v,int i64 v.p.f,int i64 v.p.j,int i64 v.p.w,.bool v.p.h,int i64 v.p.x,.bool v.E],.agg #[.slice d l.r g,.slice i l.m s,.slice c l.t f]] w λe w'=>(∃ m n,e=.returned (.agg #[.slice d l.r g,.slice m (l.m - 1) n,.slice c l.t f])/\w'.ownsRow w 228 4 (.slice m (l.m - 1) n) (l.m - 1) (zF (ZG l.I r) (l.m - 1)))/\Below w w w':=by
 have L:(v.j3:Int)=1:=oM;rw[L];clear L X;obtain⟨G,F,I,J⟩:=AI w (.cells #[v.j5,int i64 1,v.e,v.p.v,v.p.f,v.p.j,v.p.w,v.p.h,v.p.x,v.E] 268) (.cells #[(d,l.r,g),(i,l.m,s),(c,l.t,f)] 145) (.cells #[True,True,True] 145);have k:Below _ w (((w.alloc (.cells #[v.j5,int i64 1,v.e,v.p.v,v.p.f,v.p.j,v.p.w,v.p.h,v.p.x,v.E] 268)).alloc (.cells #[(d,l.r,g),(i,l.m,s),(c,l.t,f)] 145)).alloc (.cells #[True,True,True] 145)):=zd (zd (zd bZ _) _) _;go_enter func249,ntmps249;go_upto_region 1 with fail;generalize ((w.alloc _).alloc _).alloc _=V at G F I J k ⊢;have y1:=bC G 1;have M:=bC G 2;have Q:=bC F 1;go_wp2_with fail;clear y1 Q;refine(TQ i _ s _ _ r _ V Z hr W D (hx.j0 k) M).mono ?_;rintro e E ⟨⟨u,rfl,H⟩,t⟩;obtain⟨m,n,rfl,_⟩:=zn H;have o:=za F t;have B:=za I t;have q1:=bC o 1;have U:=zc o 1;have C:=zb k t;have A:zl E (E.setCell _ (m,l.m - 1,n)) _:=(zl.refl E (λb=>b=w.heap.size+1)).set (a:=⟨_,1,none⟩) rfl _
 have y:=(Lc o (m,l.m - 1,n)).2.1;have h:=A.blk B (show ¬ w.heap.size+2=w.heap.size+1 by omega)
 have z:=C.setCell (p:=(w.heap.size+1,1)) (show w.heap.size<=w.heap.size+1 by omega) (m,l.m - 1,n)
 have x:=A.j1 (zo H k.size) (λq h1 h2=>by have h2:=h2;have:=(World.ownsRow.lt H q h1).1;omega)
 go_upto_region 8 with fail;generalize E.setCell _ _=Y at y h z x ⊢;clear q1 U A o B C H t F I G k M;obtain⟨l0,l1,l2⟩:=ZE y;obtain⟨r0,r1,r2⟩:=ZE h;obtain⟨R,S,T⟩:=FM h;have P:=hI (BN h (d,l.r,g) (m,l.m - 1,n) (c,l.t,f));have N:Hid (Below _ w (((Y.setCell _ (d,l.r,g)).setCell _ (m,l.m - 1,n)).setCell _ (c,l.t,f))):=((z.setCell (p:=⟨_,0,none⟩) (by show _<=w.heap.size+2;omega) _).setCell (p:=⟨_,1,none⟩) (by show _<=w.heap.size+2;omega) _).setCell (p:=⟨_,2,none⟩) (by show _<=w.heap.size+2;omega) _
 have O:Hid ((((Y.setCell _ (d,l.r,g)).setCell _ (m,l.m - 1,n)).setCell _ (c,l.t,f)).ownsRow _ 228 4 _ _ _):=((((zl.refl Y _).set (a:=⟨_,0,none⟩) rfl _).set (a:=⟨_,1,none⟩) rfl _).set (a:=⟨_,2,none⟩) rfl _).j1 x (λq h1 h2=>by have h2:=h2;subst h2;obtain⟨cs,K⟩:=zC x _ h1;rw[h] at K;simp at K)
 clear y h z x;go_wp2;clear l0 l1 l2 r0 r1 r2 R S T;obtain⟨z0,z1,z2⟩:=ZE P;exact Jj (by simp[results,results249,go_sem,z0,z1,z2]) rfl ⟨⟨m,n,rfl,O⟩,N⟩
theorem kn (v:Wk)(l:zw)(d c i:Option Addr)(g f s r:Nat)(w:World)(W:v.j3=2)(X:l.t<=1048576)(hr:r<l.t)(U:(l.L r).e=v.e)(D:∀ j,j<l.t->(l.L j).e=v.e->j=r)(Z:qC w i l.t l.L) :
  Calls prog 249 #[.agg #[int i64 v.j5,int i64 (v.j3:Int),int i64 v.e,int i64 v.p.v,int i64 v.p.f,int i64 v.p.j,int i64 v.p.w,.bool v.p.h,int i64 v.p.x,.bool v.E],.agg #[.slice d l.r g,.slice c l.m f,.slice i l.t s]] w λe w'=>(∃ m n,e=.returned (.agg #[.slice d l.r g,.slice c l.m f,.slice m (l.t - 1) n])/\w'.ownsRow w 234 2 (.slice m (l.t - 1) n) (l.t - 1) (zL (ZG l.L r) (l.t - 1)))/\Below w w w':=by
 have L:(v.j3:Int)=2:=oM;rw[L];clear L W;obtain⟨G,F,J,K⟩:=AI w (.cells #[v.j5,int i64 2,v.e,v.p.v,v.p.f,v.p.j,v.p.w,v.p.h,v.p.x,v.E] 268) (.cells #[(d,l.r,g),(c,l.m,f),(i,l.t,s)] 145) (.cells #[True,True,True] 145);have k:Below _ w (((w.alloc (.cells #[v.j5,int i64 2,v.e,v.p.v,v.p.f,v.p.j,v.p.w,v.p.h,v.p.x,v.E] 268)).alloc (.cells #[(d,l.r,g),(c,l.m,f),(i,l.t,s)] 145)).alloc (.cells #[True,True,True] 145)):=zd (zd (zd bZ _) _) _;go_enter func249,ntmps249;go_upto_region 1 with fail;generalize ((w.alloc _).alloc _).alloc _=V at G F J K k ⊢;have y1:=bC G 1;have M:=bC G 2;have H:=bC F 2;go_wp2_with fail;clear y1 H;refine(TS i _ s _ _ r _ V X hr U D (Z.j0 k) M).mono ?_;rintro e E ⟨⟨u,rfl,I⟩,t⟩;obtain⟨m,n,rfl,_⟩:=zn I;have o:=za F t;have B:=za J t;have q2:=bC o 2;have T:=zc o 2;have C:=zb k t;have A:zl E (E.setCell _ (m,l.t - 1,n)) _:=(zl.refl E (λb=>b=w.heap.size+1)).set (a:=⟨_,2,none⟩) rfl _
 have y:=(Lc o (m,l.t - 1,n)).2.2;have h:=A.blk B (show ¬ w.heap.size+2=w.heap.size+1 by omega)
 have z:=C.setCell (p:=(w.heap.size+1,2)) (show w.heap.size<=w.heap.size+1 by omega) (m,l.t - 1,n)
 have x:=A.j1 (zo I k.size) (λq h1 h2=>by have h2:=h2;have:=(World.ownsRow.lt I q h1).1;omega)
 go_upto_region 8 with fail;generalize E.setCell _ _=Y at y h z x ⊢;clear q2 T A o B C I t F J G k M;obtain⟨l0,l1,l2⟩:=ZE y;obtain⟨r0,r1,r2⟩:=ZE h;obtain⟨Q,R,S⟩:=FM h;have P:=hI (BN h (d,l.r,g) (c,l.m,f) (m,l.t - 1,n));have N:Hid (Below _ w (((Y.setCell _ (d,l.r,g)).setCell _ (c,l.m,f)).setCell _ (m,l.t - 1,n))):=((z.setCell (p:=⟨_,0,none⟩) (by show _<=w.heap.size+2;omega) _).setCell (p:=⟨_,1,none⟩) (by show _<=w.heap.size+2;omega) _).setCell (p:=⟨_,2,none⟩) (by show _<=w.heap.size+2;omega) _
 have O:Hid ((((Y.setCell _ (d,l.r,g)).setCell _ (c,l.m,f)).setCell _ (m,l.t - 1,n)).ownsRow _ 234 2 _ _ _):=((((zl.refl Y _).set (a:=⟨_,0,none⟩) rfl _).set (a:=⟨_,1,none⟩) rfl _).set (a:=⟨_,2,none⟩) rfl _).j1 x (λq h1 h2=>by have h2:=h2;subst h2;obtain⟨cs,H⟩:=zC x _ h1;rw[h] at H;simp at H)
 clear y h z x;go_wp2;clear l0 l1 l2 r0 r1 r2 Q R S;obtain⟨z0,z1,z2⟩:=ZE P;exact Jj (by simp[results,results249,go_sem,z0,z1,z2]) rfl ⟨⟨m,n,rfl,O⟩,N⟩
theorem TW (b:zA)(d:Option Addr)(c:Nat)(q:Int)(y:qD)(g:Option Addr)(i:Nat)(w:World)(x:y.d=4) :
  Calls prog 205 #[.agg (b,d,c),q,.agg (y,g,i)] w λe w'=>e=.returned (.agg #[b.k,b.e,b.j1,(d,b.c,c),b.v,b.f,b.j,b.w,b.h,b.x,int i64 2,(),b.j2])/\Below w w w':=by
 rw[x];obtain⟨h,n,o,t⟩:=AI w (.cells (b,d,c) 150) (.cells #[int i64 4,y.j1,y.k,(g,y.c,i),y.v,y.f,y.j,y.w,y.h,y.x,y.y,y.D] 47) (.cells #[(),(),False,True,(),(),(),(),.bool false,(),(),(),()] 150);have j:Below _ w (((w.alloc (.cells (b,d,c) 150)).alloc (.cells #[int i64 4,y.j1,y.k,(g,y.c,i),y.v,y.f,y.j,y.w,y.h,y.x,y.y,y.D] 47)).alloc (.cells #[(),(),False,True,(),(),(),(),.bool false,(),(),(),()] 150)):=zd (zd (zd bZ _) _) _;clear x;go_enter func205,ntmps205;go_upto_region 1 with fail;generalize ((w.alloc _).alloc _).alloc _=V at h n o t j ⊢;have C:=bC n 0;have u:=bC h 10;have v:=bC h 11;have r:=zc h 10;have s:=zc h 11;have k:((V.setCell (w.heap.size,10) (int i64 2)).setCell (w.heap.size,11) ()).heap[w.heap.size]?=some (.cells #[b.k,b.e,b.j1,(d,b.c,c),b.v,b.f,b.j,b.w,b.h,b.x,int i64 2,(),b.j2] 150 (0,0)):=by simpa using(zk (zk h 10 _) 11 _)
 have f:=(((zl.refl V (λb=>b=w.heap.size)).set (a:=(w.heap.size,10)) rfl (int i64 2)).set (a:=(w.heap.size,11)) rfl ()).blk o (show ¬ w.heap.size+2=w.heap.size by omega)
 have l:=((j.setCell (p:=(w.heap.size,10)) (Jr _) (int i64 2)).setCell (p:=(w.heap.size,11)) (Jr _) ());rw[show w.heap.size+2=w.heap.size+1+1 by omega] at f
 go_upto_region 12 with fail;generalize (V.setCell _ _).setCell _ _=W at k f l ⊢;clear C  u r v s h n o j;refine wp_region_lit ?_;refine wpList_load_row rfl _ _ rfl _ rfl _ _ _ _ k underlying150 rfl Tryz.sizeBk ?_;refine wpList_store_row rfl _ _ _ rfl _ _ rfl rfl _ _ f Tryz.sizeBk rfl (by simp[Value.oneCell']) ?_
 obtain⟨F,m⟩:=nM (W.setRow (w.heap.size+1+1) #[b.k,b.e,b.j1,(d,b.c,c),b.v,b.f,b.j,b.w,b.h,b.x,int i64 2,(),b.j2]);have A:F.heap[w.heap.size+1+1]?=some (.cells #[b.k,b.e,b.j1,(d,b.c,c),b.v,b.f,b.j,b.w,b.h,b.x,int i64 2,(),b.j2] 150 (0,0)):=by rw[m];exact setRow_heap _ _ _ _ _ _ f
 have z:Below w w F:=by rw[m];exact below_setRow l oM _
 rw[← m];clear m;have B:=run_loadVar_row F _ 150 150 _ _ _ A underlying150 rfl Tryz.sizeBk;go_wp2;exact Jj (QP results205 rfl B) rfl ⟨rfl,z⟩
theorem TX (b:zA)(d:Option Addr)(c:Nat)(q:Int)(y:qD)(g:Option Addr)(i:Nat)(w:World)(x:y.d=6) :
  Calls prog 205 #[.agg (b,d,c),q,.agg (y,g,i)] w λe w'=>e=.returned (.agg #[b.k,b.e,b.j1,(d,b.c,c),b.v,b.f,b.j,b.w,b.h,b.x,int i64 3,(),b.j2])/\Below w w w':=by
 rw[x];obtain⟨h,n,o,t⟩:=AI w (.cells (b,d,c) 150) (.cells #[int i64 6,y.j1,y.k,(g,y.c,i),y.v,y.f,y.j,y.w,y.h,y.x,y.y,y.D] 47) (.cells #[(),(),False,True,(),(),(),(),.bool false,(),(),(),()] 150);have j:Below _ w (((w.alloc (.cells (b,d,c) 150)).alloc (.cells #[int i64 6,y.j1,y.k,(g,y.c,i),y.v,y.f,y.j,y.w,y.h,y.x,y.y,y.D] 47)).alloc (.cells #[(),(),False,True,(),(),(),(),.bool false,(),(),(),()] 150)):=zd (zd (zd bZ _) _) _;clear x;go_enter func205,ntmps205;go_upto_region 1 with fail;generalize ((w.alloc _).alloc _).alloc _=V at h n o t j ⊢;have C:=bC n 0;have u:=bC h 10;have v:=bC h 11;have r:=zc h 10;have s:=zc h 11;have k:((V.setCell (w.heap.size,10) (int i64 3)).setCell (w.heap.size,11) ()).heap[w.heap.size]?=some (.cells #[b.k,b.e,b.j1,(d,b.c,c),b.v,b.f,b.j,b.w,b.h,b.x,int i64 3,(),b.j2] 150 (0,0)):=by simpa using(zk (zk h 10 _) 11 _)
 have f:=(((zl.refl V (λb=>b=w.heap.size)).set (a:=(w.heap.size,10)) rfl (int i64 3)).set (a:=(w.heap.size,11)) rfl ()).blk o (show ¬ w.heap.size+2=w.heap.size by omega)
 have l:=((j.setCell (p:=(w.heap.size,10)) (Jr _) (int i64 3)).setCell (p:=(w.heap.size,11)) (Jr _) ());rw[show w.heap.size+2=w.heap.size+1+1 by omega] at f
 go_upto_region 12 with fail;generalize (V.setCell _ _).setCell _ _=W at k f l ⊢;clear C  u r v s h n o j;refine wp_region_lit ?_;refine wpList_load_row rfl _ _ rfl _ rfl _ _ _ _ k underlying150 rfl Tryz.sizeBk ?_;refine wpList_store_row rfl _ _ _ rfl _ _ rfl rfl _ _ f Tryz.sizeBk rfl (by simp[Value.oneCell']) ?_
 obtain⟨F,m⟩:=nM (W.setRow (w.heap.size+1+1) #[b.k,b.e,b.j1,(d,b.c,c),b.v,b.f,b.j,b.w,b.h,b.x,int i64 3,(),b.j2]);have A:F.heap[w.heap.size+1+1]?=some (.cells #[b.k,b.e,b.j1,(d,b.c,c),b.v,b.f,b.j,b.w,b.h,b.x,int i64 3,(),b.j2] 150 (0,0)):=by rw[m];exact setRow_heap _ _ _ _ _ _ f
 have z:Below w w F:=by rw[m];exact below_setRow l oM _
 rw[← m];clear m;have B:=run_loadVar_row F _ 150 150 _ _ _ A underlying150 rfl Tryz.sizeBk;go_wp2;exact Jj (QP results205 rfl B) rfl ⟨rfl,z⟩
theorem TY (b:zA)(d:Option Addr)(c:Nat)(q:Int)(y:qD)(g:Option Addr)(h:Nat)(w:World)(s:y.d=7) :
  Calls prog 205 #[.agg (b,d,c),q,.agg (y,g,h)] w λe w'=>e=.returned (.agg #[b.k,b.e,y.j1,(d,b.c,c),b.v,b.f,b.j,b.w,b.h,b.x,b.C,b.y,b.j2])/\Below w w w':=by
 rw[s];obtain⟨j,m,o,r⟩:=AI w (.cells (b,d,c) 150) (.cells #[int i64 7,y.j1,y.k,(g,y.c,h),y.v,y.f,y.j,y.w,y.h,y.x,y.y,y.D] 47) (.cells #[(),(),False,True,(),(),(),(),.bool false,(),(),(),()] 150);have i:Below _ w (((w.alloc (.cells (b,d,c) 150)).alloc (.cells #[int i64 7,y.j1,y.k,(g,y.c,h),y.v,y.f,y.j,y.w,y.h,y.x,y.y,y.D] 47)).alloc (.cells #[(),(),False,True,(),(),(),(),.bool false,(),(),(),()] 150)):=zd (zd (zd bZ _) _) _;clear s;go_enter func205,ntmps205;go_upto_region 1 with fail;generalize ((w.alloc _).alloc _).alloc _=V at j m o r i ⊢;have z:=bC m 0;have A:=bC m 1;have B:=bC j 2;have v:=zc j 2;have k:(V.setCell (w.heap.size,2) y.j1).heap[w.heap.size]?=some (.cells #[b.k,b.e,y.j1,(d,b.c,c),b.v,b.f,b.j,b.w,b.h,b.x,b.C,b.y,b.j2] 150 (0,0)):=by simpa using(zk j 2 _)
 have f:=((zl.refl V (λb=>b=w.heap.size)).set (a:=(w.heap.size,2)) rfl y.j1).blk o (show ¬ w.heap.size+2=w.heap.size by omega)
 have l:=(i.setCell (p:=(w.heap.size,2)) (Jr _) y.j1);rw[show w.heap.size+2=w.heap.size+1+1 by omega] at f
 go_upto_region 12 with fail;generalize V.setCell _ _=W at k f l ⊢;clear z A B v j m o i;refine wp_region_lit ?_;refine wpList_load_row rfl _ _ rfl _ rfl _ _ _ _ k underlying150 rfl Tryz.sizeBk ?_;refine wpList_store_row rfl _ _ _ rfl _ _ rfl rfl _ _ f Tryz.sizeBk rfl (by simp[Value.oneCell']) ?_
 obtain⟨F,n⟩:=nM (W.setRow (w.heap.size+1+1) #[b.k,b.e,y.j1,(d,b.c,c),b.v,b.f,b.j,b.w,b.h,b.x,b.C,b.y,b.j2]);have u:F.heap[w.heap.size+1+1]?=some (.cells #[b.k,b.e,y.j1,(d,b.c,c),b.v,b.f,b.j,b.w,b.h,b.x,b.C,b.y,b.j2] 150 (0,0)):=by rw[n];exact setRow_heap _ _ _ _ _ _ f
 have t:Below w w F:=by rw[n];exact below_setRow l oM _
 rw[← n];clear n;have x:=run_loadVar_row F _ 150 150 _ _ _ u underlying150 rfl Tryz.sizeBk;go_wp2;exact Jj (QP results205 rfl x) rfl ⟨rfl,t⟩
theorem TZ (b:zA)(d:Option Addr)(c:Nat)(q:Int)(y:qD)(g:Option Addr)(h:Nat)(w:World)(u:y.d=8) :
  Calls prog 205 #[.agg (b,d,c),q,.agg (y,g,h)] w λe w'=>e=.returned (.agg #[b.k,b.e,b.j1,(d,b.c,c),b.v,b.f,b.j,b.w,b.h,b.x,int i64 4,b.y,b.j2])/\Below w w w':=by
 rw[u];obtain⟨j,n,o,s⟩:=AI w (.cells (b,d,c) 150) (.cells #[int i64 8,y.j1,y.k,(g,y.c,h),y.v,y.f,y.j,y.w,y.h,y.x,y.y,y.D] 47) (.cells #[(),(),False,True,(),(),(),(),.bool false,(),(),(),()] 150);have i:Below _ w (((w.alloc (.cells (b,d,c) 150)).alloc (.cells #[int i64 8,y.j1,y.k,(g,y.c,h),y.v,y.f,y.j,y.w,y.h,y.x,y.y,y.D] 47)).alloc (.cells #[(),(),False,True,(),(),(),(),.bool false,(),(),(),()] 150)):=zd (zd (zd bZ _) _) _;clear u;go_enter func205,ntmps205;go_upto_region 1 with fail;generalize ((w.alloc _).alloc _).alloc _=V at j n o s i ⊢;have A:=bC n 0;have t:=bC j 10;have r:=zc j 10;have k:(V.setCell (w.heap.size,10) (int i64 4)).heap[w.heap.size]?=some (.cells #[b.k,b.e,b.j1,(d,b.c,c),b.v,b.f,b.j,b.w,b.h,b.x,int i64 4,b.y,b.j2] 150 (0,0)):=by simpa using(zk j 10 _)
 have f:=((zl.refl V (λb=>b=w.heap.size)).set (a:=(w.heap.size,10)) rfl (int i64 4)).blk o (show ¬ w.heap.size+2=w.heap.size by omega)
 have l:=(i.setCell (p:=(w.heap.size,10)) (Jr _) (int i64 4));rw[show w.heap.size+2=w.heap.size+1+1 by omega] at f
 go_upto_region 12 with fail;generalize V.setCell _ _=W at k f l ⊢;clear A  t r j n o i;refine wp_region_lit ?_;refine wpList_load_row rfl _ _ rfl _ rfl _ _ _ _ k underlying150 rfl Tryz.sizeBk ?_;refine wpList_store_row rfl _ _ _ rfl _ _ rfl rfl _ _ f Tryz.sizeBk rfl (by simp[Value.oneCell']) ?_
 obtain⟨F,m⟩:=nM (W.setRow (w.heap.size+1+1) #[b.k,b.e,b.j1,(d,b.c,c),b.v,b.f,b.j,b.w,b.h,b.x,int i64 4,b.y,b.j2]);have x:F.heap[w.heap.size+1+1]?=some (.cells #[b.k,b.e,b.j1,(d,b.c,c),b.v,b.f,b.j,b.w,b.h,b.x,int i64 4,b.y,b.j2] 150 (0,0)):=by rw[m];exact setRow_heap _ _ _ _ _ _ f
 have v:Below w w F:=by rw[m];exact below_setRow l oM _
 rw[← m];clear m;have z:=run_loadVar_row F _ 150 150 _ _ _ x underlying150 rfl Tryz.sizeBk;go_wp2;exact Jj (QP results205 rfl z) rfl ⟨rfl,v⟩
section
structure Sc (w u:World)(y:qD)(b:Option Addr)(d:Nat)(cs:Array Value)(e:Option (Option Addr × Nat)):Prop where
 o:Below w w u
 ban:Zn w
 Q:Zp w
 pok:QO ⟨y.v,y.f,y.j,y.w,y.h,y.x⟩ y.c
 j4:zS w b y.c y.J
 bb:u.heap[w.heap.size]?=some (.cells cs 150 (0,0))
 box:u.heap[w.heap.size+1]?=some (.cells #[int i64 5,y.j1,y.k,(b,y.c,d),y.v,y.f,y.j,y.w,y.h,y.x,y.y,y.D] 47 (0,0))
 j3:u.heap[w.heap.size+1+1]?=some (.cells #[(),(),False,True,(),(),(),(),.bool false,(),(),(),()] 150 (0,0))
 h1:∀ a c,e=some (a,c)->u.ownsRow w 3 1 (a,y.c,c) y.c (qp y.J y.c)
section
variable {w u : World} {y : qD} {alg : Option Addr} {clg : Nat} {cs : Array Value} {p1 : Option (Option Addr × Nat)}
theorem Sc.s (h:Sc w u y alg clg cs p1):u.cell? (w.heap.size+1,0)=some (int i64 5)/\u.cell? (w.heap.size+1,1)=some (.string y.j1)/\u.cell? (w.heap.size+1,2)=some (int i64 y.k)/\u.cell? (w.heap.size+1,3)=some (alg,y.c,clg)/\u.cell? (w.heap.size+1,4)=some (int i64 y.v)/\u.cell? (w.heap.size+1,5)=some (int i64 y.f)/\u.cell? (w.heap.size+1,6)=some (int i64 y.j)/\u.cell? (w.heap.size+1,7)=some (int i64 y.w)/\u.cell? (w.heap.size+1,8)=some (.bool y.h)/\u.cell? (w.heap.size+1,9)=some (int i64 y.x)/\u.cell? (w.heap.size+1,10)=some (int i64 y.y)/\u.cell? (w.heap.size+1,11)=some (int i64 y.D):=⟨bC h.box 0,bC h.box 1,bC h.box 2,bC h.box 3,bC h.box 4,bC h.box 5,bC h.box 6,bC h.box 7,bC h.box 8,bC h.box 9,bC h.box 10,bC h.box 11⟩
theorem Sc.j0 {d:World}(h:Sc w u y alg clg cs p1)(b:Below u u d):Sc w d y alg clg cs p1:=⟨zb h.o b,h.ban,h.Q,h.pok,h.j4,za h.bb b,za h.box b,za h.j3 b,λa c e=>zm b (h.h1 a c e)⟩
theorem Sc.put (h:Sc w u y alg clg cs p1)(i:Nat)(v:Value)(cs':Array Value)(f:cs.setIfInBounds i v=cs'):Sc w (u.setCell (w.heap.size,i) v) y alg clg cs' p1:=by
 have d:zl u (u.setCell _ v) _:=(zl.refl u (λb=>b=w.heap.size)).set (a:=(w.heap.size,i)) rfl _
 exact⟨h.o.setCell (Jr _) v,h.ban,h.Q,h.pok,h.j4,by rw[← f];exact zk h.bb i v,d.blk h.box oM,d.blk h.j3 oM,λa c e=>d.j1 (h.h1 a c e) (λg h1 h2=>zQ (h.h1 a c e) h.bb dC g h1 h2)⟩
theorem Sc.c1 (h:Sc w u y alg clg cs none):Calls prog 212 #[(alg,y.c,clg)] u λe f=>∃ a c,e=.returned (a,y.c,c)/\Hid (Sc w f y alg clg cs (some (a,c))):=by
 have h1:=h.pok.2;have hn:1<=y.c/\y.c<=3:=by unfold In at h1;omega
 obtain⟨b,o,g,_⟩:=h.j4 0 oM;subst g;refine(Hd _ _ clg _ u oM (h.j4.j0 h.o)).mono ?_;rintro e f ⟨⟨v,rfl,d⟩,i⟩;obtain⟨a,c,rfl,_⟩:=zn d;have k:=h.j0 i;exact⟨a,c,rfl,k.o,k.ban,k.Q,k.pok,k.j4,k.bb,k.box,k.j3,λa' c' e=>(by cases e;exact zo d h.o.size)⟩
theorem Sc.c2 (h:Sc w u y alg clg cs p1)(c:y.d=5):Calls prog 202 #[.agg #[int i64 5,y.j1,y.k,(alg,y.c,clg),y.v,y.f,y.j,y.w,y.h,y.x,y.y,y.D]] u λe d=>e=.returned (zP ⟨y.v,y.f,y.j,y.w,y.h,y.x⟩ y.c)/\Hid (Sc w d y alg clg cs p1):=by
 have:=Dv y alg clg u (h.ban.j0 h.o) (h.Q.j0 h.o) h.pok;rw[c] at this;exact this.mono λ_ _ ⟨a,b⟩=>⟨a,h.j0 b⟩
end
theorem aa (b:zA)(p:Option Addr)(o:Nat)(h:Int)(y:qD)(f:Option Addr)(j:Nat)(w:World)(D:y.d=5)(J:Zn w)(l:Zp w)(L:QO ⟨y.v,y.f,y.j,y.w,y.h,y.x⟩ y.c)(v:zS w f y.c y.J) :
  Calls prog 205 #[.agg #[int i64 b.k,int i64 b.e,.string b.j1,.slice p b.c o,int i64 b.v,int i64 b.f,int i64 b.j,int i64 b.w,.bool b.h,int i64 b.x,int i64 b.C,int i64 b.y,int i64 b.j2],int i64 h,.agg #[int i64 y.d,.string y.j1,int i64 y.k,.slice f y.c j,int i64 y.v,int i64 y.f,int i64 y.j,int i64 y.w,.bool y.h,int i64 y.x,int i64 y.y,int i64 y.D]] w λe w'=>(∃ la m,e=.returned (.agg #[int i64 b.k,int i64 h,.string b.j1,.slice la y.c m,int i64 y.v,int i64 y.f,int i64 y.j,int i64 y.w,.bool y.h,int i64 y.x,int i64 b.C,int i64 b.y,int i64 (zP ⟨y.v,y.f,y.j,y.w,y.h,y.x⟩ y.c)])/\w'.ownsRow w 3 1 (.slice la y.c m) y.c (qp y.J y.c))/\Below w w w':=by
 have N:=hI D;rw[D];obtain⟨x,t,A,s⟩:=AI w (.cells (b,p,o) 150) (.cells #[int i64 5,y.j1,y.k,(f,y.c,j),y.v,y.f,y.j,y.w,y.h,y.x,y.y,y.D] 47) (.cells #[(),(),False,True,(),(),(),(),.bool false,(),(),(),()] 150);have q:Below _ w (((w.alloc (.cells (b,p,o) 150)).alloc (.cells #[int i64 5,y.j1,y.k,(f,y.c,j),y.v,y.f,y.j,y.w,y.h,y.x,y.y,y.D] 47)).alloc (.cells #[(),(),False,True,(),(),(),(),.bool false,(),(),(),()] 150)):=zd (zd (zd bZ _) _) _;clear D;go_enter func205,ntmps205;go_upto_region 1 with fail;generalize ((w.alloc _).alloc _).alloc _=V at x t A s q ⊢;have Y:=bC t 0;have a:Hid (Sc w _ y f j _ none):=⟨q.drew,J,l,L,v,zK x,zK t,zK A,λ_ _ e=>(by cases e)⟩
 go_upto_region 5 with fail;clear Y x t A J l L v q s;refine qt 16 16 (λu=>u.cell? _=_/\u.cell? _=_/\u.cell? _=_/\u.cell? _=_/\u.cell? _=_/\u.cell? _=_/\u.cell? _=_/\u.cell? _=_/\u.cell? _=_/\u.cell? _=_/\u.cell? _=_/\u.cell? _=_) rfl kR a.s (λi=>?_)
 simp only[List.replicate_succ,List.replicate_zero];generalize V.drew=u0 at a i ⊢
 iterate 3 refine QD 0 ?_
 iterate 3 refine QD 4 ?_
 refine QD 8 ?_;refine Ay 3 λK d=>?_
 go_simp;go_at_call 212;refine Jm a.c1 ?_;rintro e u1 ⟨la,m,rfl,a⟩;dsimp only;refine d _ _ a.s (λi=>?_)
 clear d K;refine Ay 7 λK d=>?_
 go_simp;go_at_call 202;refine Jm (a.c2 N) ?_;rintro e u2 ⟨rfl,a⟩;dsimp only;refine d _ _ a.s (λi=>?_)
 clear d K;have Z:=bC a.bb 1;have P:=zc a.bb 1;refine Ay 9 λK d=>?_
 go_simp;have c:=hI ((a.put 1 _ #[_,h,_,_,_,_,_,_,_,_,_,_,_] rfl));refine d _ _ c.s (λi=>?_)
 clear d K Z P a;generalize u2.setCell _ _=u3 at c i ⊢;have a:=c;clear c;refine QD 10 ?_;have q3:=bC a.bb 3;have Q:=zc a.bb 3;refine Ay 11 λK d=>?_
 go_simp;have c:=hI ((a.put 3 _ #[_,_,_,(la,y.c,m),_,_,_,_,_,_,_,_,_] rfl));refine d _ _ c.s (λi=>?_)
 clear d K q3 Q a;generalize u3.setCell _ _=u4 at c i ⊢;have a:=c;clear c;refine QD 12 ?_;have q4:=bC a.bb 4;have q5:=bC a.bb 5;have q6:=bC a.bb 6;have q7:=bC a.bb 7;have q8:=bC a.bb 8;have q9:=bC a.bb 9;have R:=zc a.bb 4;have S:=zc a.bb 5;have T:=zc a.bb 6;have U:=zc a.bb 7;have W:=zc a.bb 8;have X:=zc a.bb 9;refine Ay 13 λK d=>?_
 go_simp;have c:=hI (((((((a.put 4 _ _ rfl).put 5 _ _ rfl).put 6 _ _ rfl).put 7 _ #[_,_,_,_,_,_,_,_,_,_,_,_,_] rfl).put 8 _ _ rfl).put 9 _ #[_,_,_,_,y.v,y.f,y.j,y.w,y.h,y.x,_,_,_] rfl));refine d _ _ c.s (λi=>?_)
 clear d K q4 R q5 S q6 T q7 U q8 W q9 X a;generalize (((((u4.setCell _ _).setCell _ _).setCell _ _).setCell _ _).setCell _ _).setCell _ _=u5 at c i ⊢;have a:=c;clear c;refine QD 14 ?_;have I:=bC a.bb 12;have B:=zc a.bb 12;refine Ay 15 λK d=>?_
 go_simp;have c:=hI ((a.put 12 _ #[_,_,_,_,_,_,_,_,_,_,_,_,(zP ⟨y.v,y.f,y.j,y.w,y.h,y.x⟩ y.c)] rfl));refine d _ _ c.s (λi=>?_)
 clear d K I B a;generalize u5.setCell _ _=u6 at c i ⊢;have a:=c;clear c;refine qh kR ?_ _;have z:=a.bb;have n:=a.j3;have C:=a.o;have r:=a.h1 la m rfl;clear a;go_upto_region 12 with fail;refine wp_region_lit ?_;refine wpList_load_row rfl _ _ rfl _ rfl _ _ _ _ z underlying150 rfl Tryz.sizeBk ?_;refine wpList_store_row rfl _ _ _ rfl _ _ rfl rfl _ _ n Tryz.sizeBk rfl (by simp[Value.oneCell']) ?_
 obtain⟨F,l⟩:=nM (u6.setRow (w.heap.size+1+1) #[b.k,h,b.j1,(la,y.c,m),y.v,y.f,y.j,y.w,y.h,y.x,b.C,b.y,(zP ⟨y.v,y.f,y.j,y.w,y.h,y.x⟩ y.c)]);have O:F.heap[w.heap.size+1+1]?=some (.cells #[b.k,h,b.j1,(la,y.c,m),y.v,y.f,y.j,y.w,y.h,y.x,b.C,b.y,(zP ⟨y.v,y.f,y.j,y.w,y.h,y.x⟩ y.c)] 150 (0,0)):=by rw[l];exact setRow_heap _ _ _ _ _ _ n
 have M:Below w w F:=by rw[l];exact below_setRow C oM _
 have H:=by
  have E:zl u6 F (λb=>b=w.heap.size+1+1):=by rw[l];exact⟨rfl,rfl,rfl,(below_setRow (Ji 0 u6) (Jq _) _).size,λk _ G=>setRow_other _ _ _ _ G⟩
  exact E.j1 r (λg h1 h2=>zQ r n dC g h1 h2)
 rw[← l];clear l;have v:=run_loadVar_row F _ 150 150 _ _ _ O underlying150 rfl Tryz.sizeBk;go_wp2;exact Jj (QP results205 rfl v) rfl ⟨⟨la,m,rfl,H⟩,M⟩
end
theorem Mi (M bo:Option Addr)(m mc n c:Nat)(p:zv)(S:Nat->ql)(x len hei:Int)(w:World)(hl:p.n=m)(hm:m<=1048576)(hn:n<=1048576)(hc:n<=c)(hx:zJ w M p)(hz:qx w bo n S)(y:bo=none->n=0/\c=0) :
  Calls prog 282 #[(M,m,mc),(bo,n,c),x,len,hei] w λe w'=>GG w' w.heap.size 220 p n S x len hei e/\Below w w w':=by
 have HX:=hI hx;have Y:=hI hz;have J:=hI hl;have X:=hI y;clear hx hz hl y;go_enter func282,ntmps282;go_wp2_with fail;refine(Fi M bo m mc n c p S _ J hm hn hc HX Y).mono ?_;rintro e w1 ⟨u,C⟩;unfold Oe Od at u
 rcases u with⟨G,rfl⟩|⟨G,rfl⟩
 ·have T:=hI G
  have a2:m<=4:=by rw[← J.out];exact G.1.1
  have a4:=G.2.1;clear G;have b:=zd C (.cells #[(qN p S n 0),(qN p S n 1),(qN p S n 2),(qN p S n 3)] 319);have H:=Jb w1 (.cells #[(qN p S n 0),(qN p S n 1),(qN p S n 2),(qN p S n 3)] 319)
  by_cases h60:n=60
  ·have Z:(n == 60)=true:=by simpa using h60
   have a0:((n:Int) == 60)=true:=by simp;omega
   have A:=hI h60;clear h60;go_wp2;exact Jj (by simp[results,results282,go_sem]) rfl ⟨DE (λk h=>h.2.1 A),b⟩
  ·have Z:(n == 60)=false:=by simpa using h60
   have a0:((n:Int) == 60)=false:=by simp;omega
   have A:Hid (n≠60):=h60;go_wp2_with fail;generalize w1.alloc _=w2 at b H ⊢;refine bM (BP bo n c S x _ hn (Y.j0 b)) λw3 D=>?_
   have B:=zb b D;have I:=za H D;clear b H D C;generalize w1.heap.size=f at I ⊢
   by_cases hh:Qh (Zm S) n x
   ·have e1:=Jd ((QK _ _ _).2 hh)
    have V:=hI hh;clear hh;go_wp2;exact Jj (by simp[results,results282,go_sem]) rfl ⟨DE (λk h=>h.2.2.1 V),B⟩
   ·have e1:=Jc (λh=>hh ((QK _ _ _).1 h))
    have V:=hI hh;clear hh h60;go_wp2;go_loopw [15,16,38] (λ_ _ i wr=>∃ k,k<=m/\i=int i64 k/\(∀ j,j<k->¬ Kc p (qN p S n) ⟨x,(j:Int),len,hei⟩)/\wr.heap[f]?=some (.cells #[(qN p S n 0),(qN p S n 1),(qN p S n 2),(qN p S n 3)] 319 (0,0))/\Below w w wr) (λ_ _ i _=>m - (intOf i).toNat)
    case atStart=>exact⟨0,Jq _,rfl,λj O=>by omega,I,B⟩
    case round =>
     obtain⟨k,hk,rfl,t,r,d⟩:=hrel;have Q:=hI t;clear t B I
     by_cases hlt:k<m
     ·have l:=zd d (.cells #[x,(k:Int),len,hei] 220)
      have a:=Jb wr (.cells #[x,(k:Int),len,hei] 220);have s:=zg r (.cells #[x,(k:Int),len,hei] 220);obtain⟨s0,s1,s2,s3⟩:=Qk a;obtain⟨f0,f1,f2,f3⟩:=Qk r;have a5:=zD r;have a3:¬ f=wr.heap.size:=oM;go_upto_region 8 with fail;generalize hW:wr.alloc _=W at a l s s0 s1 s2 s3 ⊢;have a6:=zD a;obtain⟨f0,f1,f2,f3⟩:=Qk s;clear hW d r;go_wp2_with fail;refine(Gk M m mc p _ x _ len hei _ J a2 (HX.j0 l)).mono ?_;rintro e z ⟨⟨q,rfl,P⟩,g⟩;have K:=zb l g;have a1:=za s g;have F:=za a g;clear l s a g s0 s1 s2 s3 f0 f1 f2 f3
      cases q with
      |false =>
       have U:Hid (¬ _):=λh=>by have:=P.2 h;cases this
       clear P;go_wp2;go_roundw
       case rel=>exact⟨k+1,by omega,by go_num,λj O=>by
        by_cases e:j=k
        ·subst e;exact U
        ·exact Q j oM,a1,K⟩
       case measure=>simp[intOf];omega
      |true =>
       have U:=hI (P.1 rfl);clear P;obtain⟨s0,s1,s2,s3⟩:=Qk F;have R:=hI (λo o'=>zd (zd K o) o')
       have HC:Hid (Calls prog 288 #[(some (z.heap.size+1,0),2,2)] ((z.alloc (.cells #[x,(k:Int),len,hei] 220)).alloc (.cells #[(bo,n,c),(some (z.heap.size,0),1,1)] 141)) λe L=>(∃ v,e=.returned v/\L.ownsRow w 220 4 v (n+1) (zH (QB S n (λ_=>⟨x,(k:Int),len,hei⟩)) (n+1)))/\Below w w L):=by
        have b1:((z.alloc (.cells #[x,(k:Int),len,hei] 220)).alloc (.cells #[(bo,n,c),(some (z.heap.size,0),1,1)] 141)).heap[z.heap.size+1]?=some (.cells #[(bo,n,c),(some (z.heap.size,0),1,1)] 141 (0,0)):=by simpa using Jb (z.alloc _) _
        have N:=np b1;refine(Sn _ bo _ n 1 c 1 S (λ_=>⟨x,(k:Int),len,hei⟩) _ hn oM b1 (Y.j0 (R _ _)) ?_ X (λh=>by cases h)).mono ?_
        ·intro i hi
         obtain rfl:i=0:=by omega
         exact⟨_,0,rfl,bC N 0,bC N 1,bC N 2,bC N 3⟩
        ·rintro e w5 ⟨⟨v,rfl,ho⟩,E⟩
         exact⟨⟨v,rfl,zo ho (R _ _).size⟩,zb (R _ _) E⟩
       go_wp2_with (first|(go_at_call 288;refine Jm HC ?_;rintro e w5 ⟨⟨v,rfl,ho⟩,E⟩))
       exact Jj (by simp[results,results282,go_sem]) rfl ⟨NW (Se T A V (by rw[J.out];exact hlt) U Q) ho,E⟩
     ·obtain rfl:k=m:=by omega
      go_wp2;exact Jj (by simp[results,results282,go_sem]) rfl ⟨DE (PH (λj O=>Q j (by rw[J.out] at O;exact O))),d⟩
 ·have T:=hI G
  clear G;go_wp2;exact Jj (by simp[results,results282,go_sem]) rfl ⟨DE (λk h=>T h.1),zd C _⟩
theorem FC {P Q:Nat->Prop}(h:∀ j,j<m->(P j↔Q j)):ZC m P k↔ZC m Q k:=by
 unfold ZC
 constructor
 ·rintro⟨a,b,c⟩;exact⟨a,(h k a).1 b,λj d q=>c j d ((h j oM).2 q)⟩
 ·rintro⟨a,b,c⟩;exact⟨a,(h k a).2 b,λj d q=>c j d ((h j oM).1 q)⟩
theorem Nh {p:zv}{S:Nat->zU}{cl d:Int}(g:Fc p)(e:(d=q/\FB p cl q)∨(d=0/\¬ FB p cl q)):∀ j,j<p.n->(Sp p n S cl d j↔BL p n S cl q j):=by
 intro j i;have f:=(g.2 j i).2;unfold In at f;unfold Sp BL
 constructor
 ·rintro⟨a,b,c⟩
  refine⟨a,b,?_⟩
  rcases e with⟨rfl,_⟩|⟨rfl,h⟩
  ·exact .inl c
  ·exact .inr h
 ·rintro⟨a,b,c⟩
  refine⟨a,b,?_⟩
  rcases e with⟨rfl,h⟩|⟨rfl,_⟩
  ·rcases c with c|c
   ·exact c
   ·exact absurd h c
  ·omega
theorem Ni {p:zv}{S:Nat->zU}{x:Int}(h:QF p n S/\¬ Qh (Zl S) n x/\In x 1 9999):RV p n S x :=
 ⟨h.1,by have:=Nd h.1;omega,h.2.1,h.2.2⟩
theorem Ml (r bo:Option Addr)(m z n c:Nat)(p:zv)(S:Nat->zU)(x cl q:Int)(w:World)(C:p.n=m)(D:m<=1048576)(J:n<=1048576)(I:n<=c)(E:zJ w r p)(F:qn w bo n S)(i:bo=none->n=0/\c=0) :
  Calls prog 289 #[(r,m,z),(bo,n,c),x,cl,q] w λe w'=>GA w' w.heap.size 228 p n S x cl q e/\Below w w w':=by
 have B:=hI E;have G:=hI F;have A:=hI C;have t:=hI i;clear E F C i
 by_cases g1:In q 1 20
 ·have H:=Jd g1
  have s:=hI g1;clear g1;go_enter func289,ntmps289;go_wp2_with (first|(go_at_call 191;refine bM (zx _ _ _ _) λw' a=>?_;have a:=a.symm;subst a)|(go_at_call 296;refine(Oh r m z p cl q _ A D B).mono ?_;rintro e w1 ⟨⟨y,rfl,g⟩,b⟩;have j:=hI g;clear g)|(go_at_call 295;refine(Sq r bo m z n c p S x cl y _ A D J I (B.j0 b) (G.j0 b) t).mono ?_;rintro e w2 ⟨l,o⟩;rcases l with⟨k,v,f,d,rfl,K⟩|⟨u,rfl⟩))
  ·exact Jj (by simp[results,results289,go_sem]) rfl ⟨NN ⟨Ni f,by rw[← d.2.1.1];exact(f.1.1.2 k d.1).1,s⟩ ((FC (Nh f.1.1 j)).1 d) (zo K b.size),zb b o⟩
  ·exact Jj (by simp[results,results289,go_sem]) rfl ⟨Iq (λk h=>u k ⟨⟨h.1.1.1,h.1.1.2.2.1,h.1.1.2.2.2⟩,(FC (Nh h.1.1.1.1 j)).2 h.2⟩),zb b o⟩
 ·have H:=Jc g1
  have s:=hI g1;clear g1;go_enter func289,ntmps289;go_wp2_with (first|(go_at_call 191;refine bM (zx _ _ _ _) λw' a=>?_;have a:=a.symm;subst a))
  exact Jj (by simp[results,results289,go_sem]) rfl ⟨Iq (λk h=>s h.1.2.2),bZ⟩
theorem Nj {p:zv}{S:Nat->zU}{cl:Int}(h1:1<=q):∀ j,j<p.n->(Sr p n S cl q j↔BM p n S cl q j):=by
 intro j _;unfold Sr BM In
 constructor
 ·rintro⟨a,_,b⟩;exact⟨a,b⟩
 ·rintro⟨a,b⟩;exact⟨a,h1,b⟩
theorem Ln (j bo:Option Addr)(m u n c:Nat)(p:zv)(S:Nat->zU)(x cl q:Int)(w:World)(o:p.n=m)(C:m<=1048576)(D:n<=1048576)(B:n<=c)(s:zJ w j p)(t:qn w bo n S)(d:bo=none->n=0/\c=0) :
  Calls prog 290 #[(j,m,u),(bo,n,c),x,cl,q] w λe w'=>GC w' w.heap.size 228 p n S x cl q e/\Below w w w':=by
 have z:=hI s;have A:=hI t;have y:=hI o;have i:=hI d;clear s t o d;go_enter func290,ntmps290;go_wp2_with (first|(go_at_call 295;refine(Ss j bo m u n c p S x cl q _ y C D B z A i).mono ?_;rintro e w2 ⟨f,g⟩;rcases f with⟨k,v,b,a,rfl,E⟩|⟨l,rfl⟩))
 ·have r:=a.2.1.2
  have hb:=Eo b.1.1 b.1.2.1 b.1.manys a.1;unfold In at r;exact Jj (by simp[results,results290,go_sem]) rfl ⟨NQ ⟨Ni b,by rw[← a.2.1.1];exact(b.1.1.2 k a.1).1,by unfold In;omega⟩ ((FC (Nj r.1)).1 a) E,g⟩
 ·exact Jj (by simp[results,results290,go_sem]) rfl ⟨Px (λk h=>l k ⟨⟨h.1.1.1,h.1.1.2.2.1,h.1.1.2.2.2⟩,(FC (Nj h.1.2.2.1)).2 h.2⟩),g⟩
def GK (pe:Nat->Addr)(k:Nat):Ending:=.panicked [{ v:=.iface 96 (.agg #[.iface 391 (.pointer (some (pe k)))]),recovered:=false }]
theorem Sz (s:qe)(v:Wk)(l:zw)(n g:Option Addr)(t o:Nat)(w:World)(y:qf s l)(hr:v.j3=1)(D:v.E=false)(Q:In v.e 1 9999)(R:Zc v.p)(C:In v.p.w 1 3/\(v.p.h=false->In v.p.x 1 4))(E:¬ Qh (Zl l.I) l.m v.e)(P:s.M.n<=1048576)(F:zJ w n s.M)(G:qn w g l.m l.I)(p:qm g l.m o) :
  Calls prog 283 #[.agg #[v.j5,(v.j3:Int),v.e,v.p.v,v.p.f,v.p.j,v.p.w,v.p.h,v.p.x,v.E],(n,s.M.n,t),(g,l.m,o)] w λe w'=>((∃ (x:zU) (u:Value),e=.returned (.tuple #[u,.bool true])/\qE s v l 0 (l.j6 x)/\w'.ownsRow w 228 4 u (l.m+1) (zF (l.j6 x).I (l.m+1)))∨(∃ u:Value,e=.returned (.tuple #[u,.bool false])/\qE s v l 6 l/\w'.ownsRow w 228 4 u 0 []))/\Below w w w':=by
 have O:=y.2.1.2.1;have H:∀ b,v.p.h=b->Hid _:=λ_ h=>h
 have K:=hI y;have M:=hI F;have N:=hI G;have J:=hI E;have L:=hI hr;have I:=hI D;have a:Below _ w (w.alloc (.cells #[v.j5,(v.j3:Int),v.e,v.p.v,v.p.f,v.p.j,v.p.w,v.p.h,v.p.x,v.E] 268)):=zd bZ _;have f:=Qc a
 cases ha:v.p.h with
 |true =>
  have A:=hI ha;rw[ha] at a f;clear ha y F G E hr D H;go_enter func283,ntmps283;go_upto_region 1 with fail;generalize w.alloc _=V at a f ⊢;have S:=bC f 2;have y3:=bC f 3;have T:=bC f 6;have U:=bC f 7;go_wp2_with fail;refine(Ml n g _ t _ o _ _ _ _ _ V rfl P oM p.1 (M.j0 a) (N.j0 a) p.2.2).mono ?_;rintro e W ⟨c,d⟩;have j:=zb a d
  rcases ml K L I A Q C.1 R.1 J c with⟨k,u,rfl,i,m⟩|⟨u,z,rfl,i,m⟩
  ·have r:=hI i
   have q:Hid _:=zo m a.size;clear c i m d;go_wp2;exact Jj (by simp[results,results283,go_sem]) rfl ⟨.inl ⟨_,u,rfl,r,q⟩,j⟩
  ·have r:=hI i
   have q:Hid (W.ownsRow _ 228 4 u 0 []):=zo m a.size;clear c i m d;go_wp2;exact Jj (by simp[results,results283,go_sem]) rfl ⟨.inr ⟨u,rfl,r,q⟩,j⟩
 |false =>
  have A:=hI ha;have B:=C.2 ha;rw[ha] at a f;clear ha y F G E hr D H;go_enter func283,ntmps283;go_upto_region 1 with fail;generalize w.alloc _=V at a f ⊢;have S:=bC f 2;have T:=bC f 6;have U:=bC f 7;have y8:=bC f 8;go_wp2_with fail;refine(Ln n g _ t _ o _ _ _ _ _ V rfl P oM p.1 (M.j0 a) (N.j0 a) p.2.2).mono ?_;rintro e W ⟨c,d⟩;have j:=zb a d
  rcases mm K L I A Q C.1 B J c with⟨k,u,rfl,i,m⟩|⟨u,z,rfl,i,m⟩
  ·have r:=hI i
   have q:Hid _:=zo m a.size;clear c i m d;go_wp2;exact Jj (by simp[results,results283,go_sem]) rfl ⟨.inl ⟨_,u,rfl,r,q⟩,j⟩
  ·have r:=hI i
   have q:Hid (W.ownsRow _ 228 4 u 0 []):=zo m a.size;clear c i m d;go_wp2;exact Jj (by simp[results,results283,go_sem]) rfl ⟨.inr ⟨u,rfl,r,q⟩,j⟩
theorem Dn (w:World)(a b c d:Obj):((((w.alloc a).alloc b).alloc c).alloc d).heap[w.heap.size]?=some a/\((((w.alloc a).alloc b).alloc c).alloc d).heap[w.heap.size+1]?=some b/\((((w.alloc a).alloc b).alloc c).alloc d).heap[w.heap.size+1+1]?=some c/\((((w.alloc a).alloc b).alloc c).alloc d).heap[w.heap.size+1+1+1]?=some d/\((((w.alloc a).alloc b).alloc c).alloc d).heap.size=w.heap.size+1+1+1+1:=by
 obtain⟨h1,h2,h3,e⟩:=AI w a b c;exact⟨zg h1 _,zg h2 _,zg h3 _,by have:=Jb (((w.alloc a).alloc b).alloc c) d;rw[e] at this;exact this,by simp⟩
theorem gu (s:qe)(v:Wk)(l:zw)(r G j d f:Option Addr)(E K y g h:Nat)(pe:Nat->Addr)(w:World)(W:qI w pe)(hL:qf s l)(hr:v.j3=0)(hg:v.E=false)(hw:In v.e 1 9999)(_hp:Zc v.p)(hc:Ce v.p.f v.p.j)(hh:¬ Qh (Zm l.K) l.r v.e)(hn:s.la.n<=1048576)(hx:zJ w r s.la)(hz:qx w j l.r l.K)(Q:qm j l.r y) :
  Calls prog 250 #[.agg #[v.j5,(v.j3:Int),v.e,v.p.v,v.p.f,v.p.j,v.p.w,v.p.h,v.p.x,v.E],.agg (s,r,E,G,K),.agg #[(j,l.r,y),(d,l.m,g),(f,l.t,h)]] w λe w'=>((∃ (x:ql) (n:Option Addr) (o:Nat),e=.returned (.agg #[(n,l.r+1,o),(d,l.m,g),(f,l.t,h)])/\qE s v l 0 (l.k2 x)/\w'.ownsRow w 220 4 (n,l.r+1,o) (l.r+1) (zH (l.k2 x).K (l.r+1)))∨(e=GK pe 5/\qE s v l 5 l))/\Below w w w':=by
 have a7:=hL.1.2.1;have HL:=hI hL;have HX:=hI hx;have Z:=hI hz;have HH:=hI hh;have HR:=hI hr;have HG:=hI hg;have R:(v.j3:Int)=0:=oM;rw[R];clear R hL hx hz hh hr hg;obtain⟨J,U,O,T,a1⟩:=Dn w (.cells #[v.j5,(),v.e,v.p.v,v.p.f,v.p.j,v.p.w,v.p.h,v.p.x,v.E] 268) (.cells (s,r,E,G,K) 140) (.cells #[(j,l.r,y),(d,l.m,g),(f,l.t,h)] 145) (.cells #[True,True,True] 145);have i:Below _ w ((((w.alloc (.cells #[v.j5,(),v.e,v.p.v,v.p.f,v.p.j,v.p.w,v.p.h,v.p.x,v.E] 268)).alloc (.cells (s,r,E,G,K) 140)).alloc (.cells #[(j,l.r,y),(d,l.m,g),(f,l.t,h)] 145)).alloc (.cells #[True,True,True] 145)):=zd (zd (zd (zd bZ _) _) _) _;go_enter func250,ntmps250;go_upto_region 2 with fail;generalize (((w.alloc _).alloc _).alloc _).alloc _=V at J U O T a1 i ⊢;have y1:=bC J 1;have a3:=bC U 5;have a2:=bC O 0;have a4:=bC J 2;have a5:=bC J 4;have a6:=bC J 5;have a8:(v.j3:Int)=0:=by have:=HR.out;omega
 go_wp2_with fail;clear y1 a3 a2 a4 a5 a6;refine(Mi r j _ E _ y _ _ _ _ _ V rfl hn oM Q.1 (HX.j0 i) (Z.j0 i) Q.2.2).mono ?_;rintro e N ⟨C,B⟩;have t:=za O B;have I:=za T B;have q0:=bC t 0;have g0:=zc t 0;have A:=zb i B;have c5:=(W.j0 A).c5;have a9:=Ja w _ W.c5
 rcases mj HL HR HG hw hc HH C with⟨k,u,rfl,P,M⟩|⟨u,z,rfl,P,M⟩
 ·have X:=hI P
  obtain⟨n,o,rfl,_⟩:=zn M;have L:zl N (N.setCell _ (n,l.r+1,o)) _:=(zl.refl N (λb=>b=_+1)).set (a:=(w.heap.size+1+1,0)) rfl _
  have H:=(Lc t (n,l.r+1,o)).1;have m:=L.blk I (show ¬ w.heap.size+1+1+1=w.heap.size+1+1 by omega)
  have c:=A.setCell (p:=(w.heap.size+1+1,0)) (show w.heap.size<=w.heap.size+1+1 by omega) (n,l.r+1,o)
  have F:=L.j1 (zo M i.size) (λq h1 h2=>by have h2:=h2;have:=(World.ownsRow.lt M q h1).1;omega)
  have D:=((W.j0 c).c5);go_upto_region 5 with fail;generalize N.setCell _ _=Y at H m c F D ⊢;clear q0 g0 L t I A M B O T J U i c5 C P;go_wp2_with fail;refine(ZO _ _).mono ?_;rintro e S ⟨rfl,a0⟩;subst a0;go_upto_region 12 with fail;clear D;obtain⟨l0,l1,l2⟩:=ZE H;obtain⟨r0,r1,r2⟩:=ZE m;obtain⟨f0,f1,f2⟩:=FM m;have HZ:=hI (BN m (n,l.r+1,o) (d,l.m,g) (f,l.t,h));have HB:Hid (Below _ w (((S.setCell _ (n,l.r+1,o)).setCell _ (d,l.m,g)).setCell _ (f,l.t,h))):=((c.setCell (p:=(w.heap.size+1+1+1,0)) (by show _<=_+1;omega) _).setCell (p:=(w.heap.size+1+1+1,1)) (by show _<=_+1;omega) _).setCell (p:=(w.heap.size+1+1+1,2)) (by show _<=_+1;omega) _
  have HO:Hid ((((S.setCell _ (n,l.r+1,o)).setCell _ (d,l.m,g)).setCell _ (f,l.t,h)).ownsRow _ 220 4 _ _ _):=((((zl.refl S _).set (a:=⟨_,0,none⟩) rfl _).set (a:=⟨_,1,none⟩) rfl _).set (a:=⟨_,2,none⟩) rfl _).j1 F (λq h1 h2=>by have h2:=h2;subst h2;obtain⟨cs,e2⟩:=zC F _ h1;rw[m] at e2;simp at e2)
  clear H m c F;go_wp2;clear l0 l1 l2 r0 r1 r2 f0 f1 f2;obtain⟨z0,z1,z2⟩:=ZE HZ;exact Jj (by simp[results,results250,go_sem,z0,z1,z2]) rfl ⟨.inl ⟨_,n,o,rfl,X,HO⟩,HB⟩
 ·have X:=hI P
  obtain⟨n,o,rfl,_⟩:=zn M;have c:=A.setCell (p:=(w.heap.size+1+1,0)) (show w.heap.size<=w.heap.size+1+1 by omega) (n,0,o)
  have D:=((W.j0 c).c5);go_upto_region 5 with fail;generalize N.setCell _ _=Y at c D ⊢;clear q0 g0 t I A M B O T J U i c5 C P;go_wp2_with (go_at_call 193;refine(AK _ _ _).mono ?_;rintro e S ⟨rfl,rfl⟩);exact⟨rfl,.inr ⟨rfl,X⟩,c⟩
theorem gx (s:qe)(v:Wk)(l:zw)(E r f j d:Option Addr)(H C h y g:Nat)(pe:Nat->Addr)(w:World)(S:qI w pe)(W:qf s l)(hr:v.j3=1)(hg:v.E=false)(hw:In v.e 1 9999)(hp:Zc v.p)(hc:In v.p.w 1 3/\(v.p.h=false->In v.p.x 1 4))(hh:¬ Qh (Zl l.I) l.m v.e)(hn:s.M.n<=1048576)(hx:zJ w r s.M)(hz:qn w j l.m l.I)(a0:qm j l.m y) :
  Calls prog 250 #[.agg #[v.j5,(v.j3:Int),v.e,v.p.v,v.p.f,v.p.j,v.p.w,v.p.h,v.p.x,v.E],.agg (s,E,H,r,C),.agg #[(f,l.r,h),(j,l.m,y),(d,l.t,g)]] w λe w'=>((∃ (x:zU) (n:Option Addr) (o:Nat),e=.returned (.agg #[(f,l.r,h),(n,l.m+1,o),(d,l.t,g)])/\qE s v l 0 (l.j6 x)/\w'.ownsRow w 228 4 (n,l.m+1,o) (l.m+1) (zF (l.j6 x).I (l.m+1)))∨(e=GK pe 6/\qE s v l 6 l))/\Below w w w':=by
 have b4:=W.2.1.2.1;have HL:=hI W;have HX:=hI hx;have U:=hI hz;have HH:=hI hh;have HR:=hI hr;have HG:=hI hg;have O:(v.j3:Int)=1:=oM;rw[O];clear O W hx hz hh hr hg;obtain⟨m,R,L,Q,a1⟩:=Dn w (.cells #[v.j5,int i64 1,v.e,v.p.v,v.p.f,v.p.j,v.p.w,v.p.h,v.p.x,v.E] 268) (.cells (s,E,H,r,C) 140) (.cells #[(f,l.r,h),(j,l.m,y),(d,l.t,g)] 145) (.cells #[True,True,True] 145);have i:Below _ w ((((w.alloc (.cells #[v.j5,int i64 1,v.e,v.p.v,v.p.f,v.p.j,v.p.w,v.p.h,v.p.x,v.E] 268)).alloc (.cells (s,E,H,r,C) 140)).alloc (.cells #[(f,l.r,h),(j,l.m,y),(d,l.t,g)] 145)).alloc (.cells #[True,True,True] 145)):=zd (zd (zd (zd bZ _) _) _) _;go_enter func250,ntmps250;go_upto_region 2 with fail;generalize (((w.alloc _).alloc _).alloc _).alloc _=V at m R L Q a1 i ⊢;have y1:=bC m 1;have a3:=bC R 6;have a2:=bC L 1;have a4:=bC m 0;have a6:=bC m 2;have a7:=bC m 3;have a8:=bC m 4;have a9:=bC m 5;have b0:=bC m 6;have b1:=bC m 7;have b2:=bC m 8;have b3:=bC m 9;have a5:=y1;have Z:(v.j3:Int)=1:=by have:=HR.out;omega
 go_wp2_with fail;clear y1 a3 a2 a4 a5 a6 a7 a8 a9 b0 b1 b2 b3;rw[← Z];refine(Sz s v l r j C y V HL HR HG hw hp hc HH hn (HX.j0 i) (U.j0 i) a0).mono ?_;rintro e K ⟨N,A⟩;have t:=za L A;have G:=za Q A;have q1:=bC t 1;have g1:=zc t 1;have z:=zb i A;have c5:=(S.j0 z).c6;have b5:=Ja w _ S.c6
 rcases N with⟨x,u,rfl,M,J⟩|⟨u,rfl,M,J⟩
 ·have T:=hI M
  obtain⟨n,o,rfl,_⟩:=zn J;have I:zl K (K.setCell _ (n,l.m+1,o)) _:=(zl.refl K (λb=>b=_+1)).set (a:=(w.heap.size+1+1,1)) rfl _
  have F:=(Lc t (n,l.m+1,o)).2.1;have k:=I.blk G (show ¬ w.heap.size+1+1+1=w.heap.size+1+1 by omega)
  have c:=z.setCell (p:=(w.heap.size+1+1,1)) (show w.heap.size<=w.heap.size+1+1 by omega) (n,l.m+1,o)
  have D:=I.j1 (zo J i.size) (λq h1 h2=>by have h2:=h2;have:=(World.ownsRow.lt J q h1).1;omega)
  have B:=((S.j0 c).c6);go_upto_region 8 with fail;generalize K.setCell _ _=Y at F k c D B ⊢;clear q1 g1 I t G z J A L Q m R i c5 M;go_wp2_with fail;refine(ZO _ _).mono ?_;rintro e P ⟨rfl,X⟩;subst X;go_upto_region 12 with fail;clear B;obtain⟨l0,l1,l2⟩:=ZE F;obtain⟨r0,r1,r2⟩:=ZE k;obtain⟨f0,f1,f2⟩:=FM k;have HZ:=hI (BN k (f,l.r,h) (n,l.m+1,o) (d,l.t,g));have HB:Hid (Below _ w (((P.setCell _ (f,l.r,h)).setCell _ (n,l.m+1,o)).setCell _ (d,l.t,g))):=((c.setCell (p:=(w.heap.size+1+1+1,0)) (by show _<=_+1;omega) _).setCell (p:=(w.heap.size+1+1+1,1)) (by show _<=_+1;omega) _).setCell (p:=(w.heap.size+1+1+1,2)) (by show _<=_+1;omega) _
  have HO:Hid ((((P.setCell _ (f,l.r,h)).setCell _ (n,l.m+1,o)).setCell _ (d,l.t,g)).ownsRow _ 228 4 _ _ _):=((((zl.refl P _).set (a:=⟨_,0,none⟩) rfl _).set (a:=⟨_,1,none⟩) rfl _).set (a:=⟨_,2,none⟩) rfl _).j1 D (λq h1 h2=>by have h2:=h2;subst h2;obtain⟨cs,e2⟩:=zC D _ h1;rw[k] at e2;simp at e2)
  clear F k c D;go_wp2;clear l0 l1 l2 r0 r1 r2 f0 f1 f2;obtain⟨z0,z1,z2⟩:=ZE HZ;exact Jj (by simp[results,results250,go_sem,z0,z1,z2]) rfl ⟨.inl ⟨_,n,o,rfl,T,HO⟩,HB⟩
 ·have T:=hI M
  obtain⟨n,o,rfl,_⟩:=zn J;have c:=z.setCell (p:=(w.heap.size+1+1,1)) (show w.heap.size<=w.heap.size+1+1 by omega) (n,0,o)
  have B:=((S.j0 c).c6);go_upto_region 8 with fail;generalize K.setCell _ _=Y at c B ⊢;clear q1 g1 t G z J A L Q m R i c5 M;go_wp2_with (go_at_call 193;refine(AK _ _ _).mono ?_;rintro e P ⟨rfl,rfl⟩);exact⟨rfl,.inr ⟨rfl,T⟩,c⟩
theorem gy (s:qe)(v:Wk)(l:zw)(D C f d i:Option Addr)(H G h g r:Nat)(pe:Nat->Addr)(w:World)(T:qI w pe)(X:qf s l)(hr:v.j3=2)(hg:v.E=false)(hw:In v.e 1 9999)(hp:Zc v.p)(hh:¬ Qh (ZZ l.L) l.t v.e)(hz:qC w i l.t l.L)(O:qm i l.t r) :
  Calls prog 250 #[.agg #[v.j5,(v.j3:Int),v.e,v.p.v,v.p.f,v.p.j,v.p.w,v.p.h,v.p.x,v.E],.agg (s,D,H,C,G),.agg #[(f,l.r,h),(d,l.m,g),(i,l.t,r)]] w λe w'=>((∃ (x:qO) (m:Option Addr) (n:Nat),e=.returned (.agg #[(f,l.r,h),(d,l.m,g),(m,l.t+1,n)])/\qE s v l 0 (l.k0 x)/\w'.ownsRow w 234 2 (m,l.t+1,n) (l.t+1) (zL (l.k0 x).L (l.t+1)))∨(e=GK pe 7/\qE s v l 7 l))/\Below w w w':=by
 have a5:=X.2.2.2.1;have HL:=hI X;have W:=hI hz;have HH:=hI hh;have HR:=hI hr;have HG:=hI hg;have P:(v.j3:Int)=2:=oM;rw[P];clear P X hz hh hr hg;obtain⟨K,S,M,R,a0⟩:=Dn w (.cells #[v.j5,int i64 2,v.e,v.p.v,v.p.f,v.p.j,v.p.w,v.p.h,v.p.x,v.E] 268) (.cells (s,D,H,C,G) 140) (.cells #[(f,l.r,h),(d,l.m,g),(i,l.t,r)] 145) (.cells #[True,True,True] 145);have k:Below _ w ((((w.alloc (.cells #[v.j5,int i64 2,v.e,v.p.v,v.p.f,v.p.j,v.p.w,v.p.h,v.p.x,v.E] 268)).alloc (.cells (s,D,H,C,G) 140)).alloc (.cells #[(f,l.r,h),(d,l.m,g),(i,l.t,r)] 145)).alloc (.cells #[True,True,True] 145)):=zd (zd (zd (zd bZ _) _) _) _;go_enter func250,ntmps250;go_upto_region 2 with fail;generalize (((w.alloc _).alloc _).alloc _).alloc _=V at K S M R a0 k ⊢;have y1:=bC K 1;have a2:=bC S 7;have a1:=bC M 2;have a3:=bC K 2;have a4:=bC K 3;have a6:(v.j3:Int)=2:=by have:=HR.out;omega
 go_wp2_with fail;clear y1 a2 a1 a3 a4;refine(Mo _ i _ r _ _ _ V oM O.1 (W.j0 k) O.2.2).mono ?_;rintro e L ⟨z,y⟩;have o:=za M y;have F:=za R y;have q2:=bC o 2;have g2:=zc o 2;have t:=zb k y;have c5:=(T.j0 t).c7;have a7:=Ja w _ T.c7
 rcases oh HL HR HG hw hp.1 HH z with⟨u,rfl,N,J⟩|⟨u,rfl,N,J⟩
 ·have U:=hI N
  obtain⟨m,n,rfl,_⟩:=zn J;have I:zl L (L.setCell _ (m,l.t+1,n)) _:=(zl.refl L (λb=>b=_+1)).set (a:=(w.heap.size+1+1,2)) rfl _
  have E:=(Lc o (m,l.t+1,n)).2.2;have j:=I.blk F (show ¬ w.heap.size+1+1+1=w.heap.size+1+1 by omega)
  have c:=t.setCell (p:=(w.heap.size+1+1,2)) (show w.heap.size<=w.heap.size+1+1 by omega) (m,l.t+1,n)
  have B:=I.j1 (zo J k.size) (λq h1 h2=>by have h2:=h2;have:=(World.ownsRow.lt J q h1).1;omega)
  have A:=((T.j0 c).c7);go_upto_region 11 with fail;generalize L.setCell _ _=Y at E j c B A ⊢;clear q2 g2 I o F t J y M R K S k c5 z N;go_wp2_with fail;refine(ZO _ _).mono ?_;rintro e Q ⟨rfl,Z⟩;subst Z;go_upto_region 12 with fail;clear A;obtain⟨l0,l1,l2⟩:=ZE E;obtain⟨r0,r1,r2⟩:=ZE j;obtain⟨f0,f1,f2⟩:=FM j;have HZ:=hI (BN j (f,l.r,h) (d,l.m,g) (m,l.t+1,n));have HB:Hid (Below _ w (((Q.setCell _ (f,l.r,h)).setCell _ (d,l.m,g)).setCell _ (m,l.t+1,n))):=((c.setCell (p:=(w.heap.size+1+1+1,0)) (by show _<=_+1;omega) _).setCell (p:=(w.heap.size+1+1+1,1)) (by show _<=_+1;omega) _).setCell (p:=(w.heap.size+1+1+1,2)) (by show _<=_+1;omega) _
  have HO:Hid ((((Q.setCell _ (f,l.r,h)).setCell _ (d,l.m,g)).setCell _ (m,l.t+1,n)).ownsRow _ 234 2 _ _ _):=((((zl.refl Q _).set (a:=⟨_,0,none⟩) rfl _).set (a:=⟨_,1,none⟩) rfl _).set (a:=⟨_,2,none⟩) rfl _).j1 B (λq h1 h2=>by have h2:=h2;subst h2;obtain⟨cs,e2⟩:=zC B _ h1;rw[j] at e2;simp at e2)
  clear E j c B;go_wp2;clear l0 l1 l2 r0 r1 r2 f0 f1 f2;obtain⟨z0,z1,z2⟩:=ZE HZ;exact Jj (by simp[results,results250,go_sem,z0,z1,z2]) rfl ⟨.inl ⟨_,m,n,rfl,U,HO⟩,HB⟩
 ·have U:=hI N
  obtain⟨m,n,rfl,_⟩:=zn J;have c:=t.setCell (p:=(w.heap.size+1+1,2)) (show w.heap.size<=w.heap.size+1+1 by omega) (m,0,n)
  have A:=((T.j0 c).c7);go_upto_region 11 with fail;generalize L.setCell _ _=Y at c A ⊢;clear q2 g2 o F t J y M R K S k c5 z N;go_wp2_with (go_at_call 193;refine(AK _ _ _).mono ?_;rintro e Q ⟨rfl,rfl⟩);exact⟨rfl,.inr ⟨rfl,U⟩,c⟩
theorem PO (kind:Int)(own:ByteArray)(name:Int)(b:Option Addr)(lgn c:Nat)(lg:Nat->Int)(pe len hei cl:Int)(all:Bool)(be unt now:Int)(w:World)(d:¬ In kind 1 9) :
  Calls prog 159 #[.agg #[int i64 kind,.string own,int i64 name,.slice b lgn c,int i64 pe,int i64 len,int i64 hei,int i64 cl,.bool all,int i64 be,int i64 unt,int i64 now]] w λe w'=>e=.returned (.bool (decide (QE ⟨kind,own,name,lgn,lg,pe,len,hei,cl,all,be,unt,now⟩)))/\Below w w w':=by
 rw[Jc (show ¬ QE ⟨kind,own,name,lgn,lg,pe,len,hei,cl,all,be,unt,now⟩ from λh=>d h.1)]
 have x9:decide (In kind 1 9)=false:=Jc d;clear d;go_enter func159,ntmps159;go_wp2_with (first|(go_at_call 148;refine bM (zt _ _ _ _) λw' a=>?_;have a:=a.symm;subst a))
 go_ret;exact⟨rfl,zd bZ _⟩
theorem SB (cs:List Value)(x:qD)(w:World)(c:x.j1.size<=1000000000000000)(h:qD.Is w cs x) :
  Calls prog 159 #[.agg cs.toArray] w λe w'=>e=.returned (.bool (decide (QE x)))/\Below w w w':=by
 obtain⟨a,b,rfl,_,_⟩:=h;obtain⟨kind,own,name,lgn,lg,pe,len,hei,cl,all,be,unt,now⟩:=x
 by_cases k9:In kind 1 9
 ·have h9:kind=1∨kind=2∨kind=3∨kind=4∨kind=5∨kind=6∨kind=7∨kind=8∨kind=9:=by unfold In at k9;omega
  exact SA kind own name a lgn b lg pe len hei cl all be unt now w c h9
 ·exact PO kind own name a lgn b lg pe len hei cl all be unt now w k9
def QR (N:Nat)(x:zY)(y:qD):Prop:=(zM y.d/\¬ Q6 N x.G y.c y.J)∨(y.d=9/\zX x.G (y.J 0) N=N)
def ZT (N R m:Nat)(x:zY)(y:qD)(a:Int):Prop :=
 (¬ QE y->a=1)/\(QE y->QR N x y->a=2)/\(QE y->¬ QR N x y->In y.d 4 8->DI R m x y a)/\(QE y->¬ QR N x y->¬ In y.d 4 8->a=0)
theorem PQ (i J E u:Option Addr)(N M R o L K p m:Nat)(x:zY)(y:qD)(w:World)(hN:N<=1048576)(hR:R<=1048576)(hl:y.c<=1048576)(ho:y.j1.size<=1000000000000000)(hz:qy w i N x.G)(a4:qL w E R x.u)(a2:qD.Is w [y.d,y.j1,y.k,(u,y.c,p),y.v,y.f,y.j,y.w,y.h,y.x,y.y,y.D] y)(hm:QE y->In y.d 4 8->y.k=(m:Int)+1/\m<=1048576) :
  Calls prog 90 #[.agg #[(i,N,o),(J,M,L),(E,R,K)],.agg (y,u,p)] w λe w'=>(∃ B:Int,e=.returned B/\ZT N R m x y B)/\Below w w w':=by
 have HM:=hI hm;clear hm;have Y:=hI a4;have HZ:=hI hz;have a9:=hI a2;have a3:Hid (zS w u y.c y.J):=by
  obtain⟨a,c,e,h,_⟩:=a2;simp only[List.cons.injEq,Value.slice.injEq] at e;obtain⟨_,_,_,⟨rfl,_,_⟩,_⟩:=e;exact h
 clear a4 hz a2;have G:Below _ w ((w.alloc (.cells #[(i,N,o),(J,M,L),(E,R,K)] 38)).alloc (.cells (y,u,p) 47)):=zd (zd bZ _) _;have bF:=Cs G;have bO:=Dt G;go_enter func90,ntmps90;go_upto_region 1 with fail;generalize (w.alloc _).alloc _=V at G bF bO ⊢;obtain⟨o0,o1,o2,o3,o4,o5,o6,o7,o8,o9,b1,b2⟩:=DQ bO;obtain⟨q,hq⟩:=nM (decide (QE y));have cg:=SB _ y V ho (a9.j0 G);rw[← hq] at cg;have HQ:Hid (q=true↔QE y):=by rw[hq];exact decide_eq_true_iff
 clear hq;go_wp2_with fail;refine cg.mono ?_;clear cg;rintro e H ⟨rfl,T⟩;have D:=za bO T;have F:=za bF T;have t:=hI (zb G T);clear o0 o1 o2 o3 o4 o5 o6 o7 o8 o9 b1 b2 bO bF G T
 cases q with
 |false =>
  have W:¬ _:=λh=>by have:=HQ.2 h;cases this
  have v:Hid (ZT N R m x y 1):=⟨λ_=>rfl,λh=>absurd h W,λh=>absurd h W,λh=>absurd h W⟩
  clear W;go_wp2;go_ret;exact⟨⟨1,rfl,v⟩,t⟩
 |true =>
  have n:Hid (QE y):=by first|exact HQ.1 rfl|exact HQ.1 trivial
  have o0:=bC D 0;have o3:=bC D 3;have f0:=bC F 0
  by_cases hL:zM y.d
  ·have dL:=Jd hL
   have k9:(y.d == 9)=false:=by rw[beq_eq_false_iff_ne];unfold zM at hL;omega
   go_wp2_with (go_at_call 160;refine bM (Qe _ _) λw' b=>?_;have b:=b.symm;subst b)
   refine(Np i u N _ o p _ _ _ hN hl (HZ.j0 t) (a3.j0 t)).mono ?_;rintro e w2 ⟨⟨r,rfl,hr⟩,U⟩;have f:=za D U;have j:=za F U;have l:=hI (zb t U);have Z:=hI hr;clear o0 o3 f0 D F t U hr dL
   cases r with
   |false =>
    have v:Hid (ZT N R m x y 2):=by
     have S:QR N x y:=.inl ⟨hL,λh=>by have:=Z.2 h;cases this⟩
     exact⟨λh=>absurd n h,λ_ _=>rfl,λ_ h=>absurd S h,λ_ h=>absurd S h⟩
    clear hL;go_wp2;go_ret;exact⟨⟨2,rfl,v⟩,l⟩
   |true =>
    have z:Hid (¬ QR N x y):=by
     rintro(⟨_,h⟩|⟨h,_⟩)
     ·exact h (by first|exact Z.1 rfl|exact Z.1 trivial)
     ·unfold zM at hL;omega
    clear hL;have u0:∀ h:zy w2,h.val.cell? _=some (.int _ _):=λh=>bC (za f h.o) 0
    have u3:∀ h:zy w2,h.val.cell? _=some (.slice u _ p):=λh=>bC (za f h.o) 3
    have v0:∀ h:zy w2,h.val.cell? _=some (i,N,o):=λh=>bC (za j h.o) 0
    go_upto_region 5 with fail;refine ze kR kR ?_
    repeat(go_big_quiet_step (fail))
    refine Jl ?_;rintro _ ⟨g,rfl⟩;have k:=za f g.o;have s:=za j g.o;have d:=hI (zb l g.o);generalize g.val=w3 at k s d ⊢;clear u0 u3 v0 f j l
    by_cases hn:In y.d 4 8
    ·have O:=Jd hn
     obtain⟨p0,p1,p2,p3,p4,p5,p6,p7,p8,p9,a6,a7⟩:=DQ k;obtain⟨s0,s1,s2⟩:=ZE s;have A:=hI (HM n hn);go_wp2_with (go_at_call 162;refine bM (Qi _ _) λw' b=>?_;have b:=b.symm;subst b)
     refine(Co i J E u N M R o L K p m x y w3 hR A.2 A.1 (Y.j0 d)).mono ?_;rintro e w4 ⟨⟨B,rfl,C⟩,P⟩;have v:Hid (ZT N R m x y _):=⟨λh=>absurd n h,λ_ h=>absurd h z,λ_ _ _=>C,λ_ _ h=>absurd hn h⟩
     have I:=hI (zb d P);clear C;go_wp2;go_ret;exact⟨⟨_,rfl,v⟩,I⟩
    ·have O:=Jc hn
     have p0:=bC k 0;have v:Hid (ZT N R m x y 0):=⟨λh=>absurd n h,λ_ h=>absurd h z,λ_ _ h=>absurd h hn,λ_ _ _=>rfl⟩
     go_wp2_with (go_at_call 162;refine bM (Qi _ _) λw' b=>?_;have b:=b.symm;subst b)
     go_ret;exact⟨⟨0,rfl,v⟩,d⟩
  ·have dL:=Jc hL
   have f:=D;have j:=F;have l:=t
   by_cases h9:y.d=9
   ·have a5:=by
     have h:=n.2.2.2.1;unfold Zj at h;rw[Je hL,Jf h9] at h;exact h
    have k9:(y.d == 9)=true:=by rw[beq_iff_eq];exact h9
    have H9:=hI h9;obtain⟨gb,go,b0,a1⟩:=a3 0 oM;subst b0;have i0:(0:Int)<(y.c:Int):=oM;have b4:0<y.c:=oM;have z0:∀ h:zy H,h.val.cell? ⟨gb,go,_⟩=_:=λh=>((zb t h.o).cell (Ja w _ a1)).trans a1
    clear D F t a1;have a8:=hI hL;have b3:=hI a5;clear hL h9 a5;obtain⟨fi,a0⟩:∃ fi,fi=zX x.G (y.J 0) N:=⟨_,rfl⟩;have Q:=hI a0
    by_cases hfx:fi<N
    ·have z:Hid (¬ QR N x y):=by
      rintro(⟨h,_⟩|⟨_,h⟩)
      ·exact a8 h
      ·have e:=Q;omega
     have X:Hid (∀ g:zy H,_):=λg=>zr ((BB i N o _ (y.J 0) _ hN (HZ.j0 (zb l g.o))).mono λe w'' ⟨h,S⟩=>by
      rw[← Q.out] at h
      rcases h with⟨_,h⟩|⟨h,_⟩
      ·exact⟨h,S⟩
      ·omega)
     have d9:decide ((fi:Int)<0)=false:=Jc (by omega)
     clear a0;go_upto_region 5 with(go_at_call 160;refine sC (Qe _ _) ?_);clear o0 o3 f0 dL;have u0:∀ h:zy H,h.val.cell? _=some (.int _ _):=λh=>zf (za f h.o) 0 _ rfl
     have u3:∀ h:zy H,h.val.cell? _=some (.slice _ _ p):=λh=>zf (za f h.o) 3 _ rfl
     have v0:∀ h:zy H,h.val.cell? _=some (i,N,o):=λh=>zf (za j h.o) 0 _ rfl
     refine ze (by kernel_rfl) (by kernel_rfl) ?_
     repeat(first|go_big_quiet_skip|(go_big_quiet_want;go_big_quiet_op;first|go_big_quiet_on|(apply Jg;refine⟨λg=>?_,?_⟩;(focus(go_at_call 161;exact X g));go_big_quiet_on)))
     refine Jl ?_;rintro _ ⟨g,rfl⟩;have k:=za f g.o;have s:=za j g.o;have d:=hI (zb l g.o);generalize g.val=w3 at k s d ⊢;clear u0 u3 v0 z0 f j l
     by_cases hn:In y.d 4 8
     ·have O:=Jd hn
      obtain⟨p0,p1,p2,p3,p4,p5,p6,p7,p8,p9,a6,a7⟩:=DQ k;obtain⟨s0,s1,s2⟩:=ZE s;have A:=hI (HM n hn);go_wp2_with (go_at_call 162;refine sC (Qi _ _) ?_);refine(Co i J E _ N M R o L K p m x y w3 hR A.2 A.1 (Y.j0 d)).mono ?_;rintro e w4 ⟨⟨B,rfl,C⟩,P⟩;have v:Hid (ZT N R m x y _):=⟨λh=>absurd n h,λ_ h=>absurd h z,λ_ _ _=>C,λ_ _ h=>absurd hn h⟩
      have I:=hI (zb d P);clear C;go_wp2;go_ret;exact⟨⟨_,rfl,v⟩,I⟩
     ·have O:=Jc hn
      have p0:=zf k 0 _ rfl;have v:Hid (ZT N R m x y 0):=⟨λh=>absurd n h,λ_ h=>absurd h z,λ_ _ h=>absurd h hn,λ_ _ _=>rfl⟩
      go_wp2_with (go_at_call 162;refine sC (Qi _ _) ?_);go_ret;exact⟨⟨0,rfl,v⟩,d⟩
    ·have v:Hid (ZT N R m x y 2):=by
      have S:QR N x y:=.inr ⟨H9,by
       have e:=Q;have h2:=CM x.G (y.J 0) N
       omega⟩
      exact⟨λh=>absurd n h,λ_ _=>rfl,λ_ h=>absurd S h,λ_ h=>absurd S h⟩
     have X:Hid (∀ g:zy H,_):=λg=>zr ((BB i N o _ (y.J 0) _ hN (HZ.j0 (zb l g.o))).mono λe w'' ⟨h,S⟩=>by
      rw[← Q.out] at h
      rcases h with⟨h,_⟩|⟨_,h⟩
      ·omega
      ·exact⟨h,S⟩)
     clear a0;go_upto_region 5 with(go_at_call 160;refine sC (Qe _ _) ?_);clear o0 o3 f0 dL;have u0:∀ h:zy H,h.val.cell? _=some (.int _ _):=λh=>zf (za f h.o) 0 _ rfl
     have u3:∀ h:zy H,h.val.cell? _=some (.slice _ _ p):=λh=>zf (za f h.o) 3 _ rfl
     have v0:∀ h:zy H,h.val.cell? _=some (i,N,o):=λh=>zf (za j h.o) 0 _ rfl
     refine ze (by kernel_rfl) (by kernel_rfl) ?_
     repeat(first|go_big_quiet_skip|(go_big_quiet_want;go_big_quiet_op;first|go_big_quiet_on|(apply Jg;refine⟨λg=>?_,?_⟩;(focus(go_at_call 161;exact X g));go_big_quiet_on)))
     refine Jl ?_;rintro _ ⟨g,rfl⟩;have k:=za f g.o;have s:=za j g.o;have d:=hI (zb l g.o);generalize g.val=w3 at k s d ⊢;clear u0 u3 v0 z0 f j l;go_wp2;go_ret;exact⟨⟨2,rfl,v⟩,d⟩
   ·have k9:(y.d == 9)=false:=by rw[beq_eq_false_iff_ne];exact h9
    have z:Hid (¬ QR N x y):=by
     rintro(⟨h,_⟩|⟨h,_⟩)
     ·exact hL h
     ·exact h9 h
    clear hL h9 D F t;go_upto_region 5 with(go_at_call 160;refine bM (Qe _ _) λw' b=>?_;have b:=b.symm;subst b)
    clear o0 o3 f0 dL;have u0:∀ h:zy H,h.val.cell? _=some (.int _ _):=λh=>bC (za f h.o) 0
    have u3:∀ h:zy H,h.val.cell? _=some (.slice u _ p):=λh=>bC (za f h.o) 3
    have v0:∀ h:zy H,h.val.cell? _=some (i,N,o):=λh=>bC (za j h.o) 0
    refine ze kR kR ?_
    repeat(go_big_quiet_step (fail))
    refine Jl ?_;rintro _ ⟨g,rfl⟩;have k:=za f g.o;have s:=za j g.o;have d:=hI (zb l g.o);generalize g.val=w3 at k s d ⊢;clear u0 u3 v0 f j l
    by_cases hn:In y.d 4 8
    ·have O:=Jd hn
     obtain⟨p0,p1,p2,p3,p4,p5,p6,p7,p8,p9,a6,a7⟩:=DQ k;obtain⟨s0,s1,s2⟩:=ZE s;have A:=hI (HM n hn);go_wp2_with (go_at_call 162;refine bM (Qi _ _) λw' b=>?_;have b:=b.symm;subst b)
     refine(Co i J E u N M R o L K p m x y w3 hR A.2 A.1 (Y.j0 d)).mono ?_;rintro e w4 ⟨⟨B,rfl,C⟩,P⟩;have v:Hid (ZT N R m x y _):=⟨λh=>absurd n h,λ_ h=>absurd h z,λ_ _ _=>C,λ_ _ h=>absurd hn h⟩
     have I:=hI (zb d P);clear C;go_wp2;go_ret;exact⟨⟨_,rfl,v⟩,I⟩
    ·have O:=Jc hn
     have p0:=bC k 0;have v:Hid (ZT N R m x y 0):=⟨λh=>absurd n h,λ_ h=>absurd h z,λ_ _ h=>absurd h hn,λ_ _ _=>rfl⟩
     go_wp2_with (go_at_call 162;refine bM (Qi _ _) λw' b=>?_;have b:=b.symm;subst b)
     go_ret;exact⟨⟨0,rfl,v⟩,d⟩
section
variable{n m j k:Nat}{x:zY}{y:qD}
theorem SF {N:Nat}{S:Nat->qe}{G:Nat->Int}(a:At N S)(h:Q6 N S n G):∀ d j,j+d+1<n->(S (zX S (G j) N)).T<=(S (zX S (G (j+d+1)) N)).O:=by
 intro d
 induction d with
 |zero =>
  intro j b;have:=(h.2.2 (j+1) oM).2 oM
  simpa using this.2
 |succ d ih =>
  intro j b;have h1:=ih j oM;have h2:=((h.2.2 _ oM).2 oM).2;have h3:=(a.2 _ (h.2.2 (j+d+1) oM).1).1;have e:j+(d+1)+1 - 1=j+d+1:=oM;rw[e] at h2;have h4:=h3.2.2.2.2.2.1
  omega
theorem DJ {N:Nat}{S:Nat->qe}{G:Nat->Int}(a:At N S)(h:Q6 N S n G):∀ i,i<n->∀ j,j<i->G j≠G i:=λi b j hj e=>by
 obtain⟨d,rfl⟩:∃ d,i=j+d+1:=⟨i - j - 1,by omega⟩
 have h1:=SF a h d j b;rw[← e] at h1;have h3:=(a.2 _ (h.2.2 j oM).1).1;have h4:=h3.2.2.2.2.2.1
 omega
def SG (x:zY)(v:Wk):Prop:=v.j3<3/\zX x.G v.j5 x.i<x.i/\(v.E=false->In v.e 1 9999/\Zc v.p/\Q1 v.p.f v.p.w v.j3=true)
def Qf (x:zY)(y:qD)(m:Nat):Prop:=QE y/\¬ QR x.i x y/\(In y.d 4 8->y.k=(m:Int)+1/\m<x.g/\¬ CH (x.u m) y)
theorem Qf.j4 (h:Qf x y m)(a:zM y.d):Q6 x.i x.G y.c y.J:=by
 by_cases c:Q6 x.i x.G y.c y.J
 ·exact c
 ·exact absurd (.inl ⟨a,c⟩) h.2.1
theorem Qf.party (h:Qf x y m)(a:zM y.d):Zc ⟨y.v,y.f,y.j,y.w,y.h,y.x⟩:=by
 have:=h.1.2.2.2.2.1;unfold Zr at this;rw[Jf a] at this;exact this
theorem Bn {k:Int}(h:QH k):In k 4 8:=by
 unfold QH at h;unfold In
 omega
theorem FE {b:Int}(h:qS x)(g:Qf x y m)(q:In b 1 9999)(p:∀ i,i<x.g->(x.u i).e≠b) :
  (qB x b y m).Pairwise DN/\∀ v ∈ qB x b y m,ex x x.F v/\SG x v:=by
 have j:=h.1;have f:_->_/\CB _/\_:=λr=>by
  obtain⟨_,h2,h3⟩:=g.2.2 (Bn r);refine⟨h2,?_,(h.2.2.2.2.1 m h2).2.2.2.1⟩
  by_cases c:CB (x.u m)
  ·exact c
  ·exact absurd (.inl c) h3
 constructor
 ·unfold qB
  by_cases h1:QH y.d
  ·obtain⟨l,o,d⟩:=f h1
   rw[Jf h1]
   by_cases h2:zM y.d
   ·rw[Jf h2]
    exact NZ (DJ j d) (DJ j (g.j4 h2)) (p m l)
   ·rw[Je h2,List.append_nil]
    exact BA _ _ _ _ _ (DJ j d)
  ·rw[Je h1,List.nil_append]
   by_cases h2:zM y.d
   ·rw[Jf h2]
    exact BA _ _ _ _ _ (DJ j (g.j4 h2))
   ·rw[Je h2]
    exact List.Pairwise.nil
 ·intro v a
  unfold qB at a
  rcases List.mem_append.1 a with a|a
  ·by_cases h1:QH y.d
   ·rw[Jf h1] at a
    obtain⟨l,o,d⟩:=f h1;refine⟨h.apt_goes l o rfl rfl a,?_⟩;obtain⟨⟨i,k,e⟩,hr,n,_⟩:=Bm a;exact⟨hr,by rw[e];exact(d.2.2 i k).1,λc=>by rw[n] at c;cases c⟩
   ·rw[Je h1] at a
    cases a
  ·by_cases h2:zM y.d
   ·rw[Jf h2] at a
    refine⟨h.apt_comes p a,?_⟩;obtain⟨⟨i,k,e⟩,hr,n,u,s,t⟩:=Bm a;refine⟨hr,by rw[e];exact((g.j4 h2).2.2 i k).1,λ_=>?_⟩
    rw[u,s];exact⟨q,g.party h2,t⟩
   ·rw[Je h2] at a
    cases a
inductive ET (x:zY):List Wk->(Nat->zw)->(Nat->zw)->Prop
 |nil (L:Nat->zw):ET x [] L L
 |snoc (l:List Wk) (L M:Nat->zw) (v:Wk) (k:Nat) (z:zw) (h:ET x l L M) (hk:zX x.G v.j5 x.i=k) (hl:k<x.i) (hw:qE (x.G k) v (M k) 0 z):ET x (l++[v]) L (Ew M k z)
structure Q2 (x:zY)(l:List Wk)(j:Nat)(M:Nat->zw):Prop where
 done:ET x (l.take j) x.F M
 good:∀ i,i<x.i->qf (x.G i) (M i)
 apt:∀ v ∈ l.drop j,ex x M v
theorem Q2.start {l:List Wk}(a:qS x)(b:∀ v ∈ l,ex x x.F v):Q2 x l 0 x.F :=
 ⟨by rw[List.take_zero];exact .nil _,a.2.2.2.1,by rw[List.drop_zero];exact b⟩
theorem Q2.comes {l:List Wk}{M:Nat->zw}{v:Wk}(h:Q2 x l j M)(d:l[j]?=some v)(b:zX x.G v.j5 x.i=k)(c:k<x.i)(f:SG x v):Tw v (M k):=λa=>by
 obtain⟨h1,h2,h3⟩:=f.2.2 a;refine⟨h1,h2,h3,?_⟩;have e:v ∈ l.drop j:=by
  rw[List.mem_iff_getElem?];exact⟨0,by rw[List.getElem?_drop];simpa using d⟩
 have:=(h.apt v e).2 k c (by rw[← b];exact CN _ _ _ (by rw[b];exact c))
 rw[Je (by rw[a];decide)] at this
 exact this
theorem Q2.there {l:List Wk}{M:Nat->zw}{v:Wk}(h:Q2 x l j M)(d:l[j]?=some v)(a:zX x.G v.j5 x.i=k)(b:k<x.i)(c:v.E=true):Eb (M k) v.j3 v.e:=by
 have e:v ∈ l.drop j:=by
  rw[List.mem_iff_getElem?];exact⟨0,by rw[List.getElem?_drop];simpa using d⟩
 have:=(h.apt v e).2 k b (by rw[← a];exact CN _ _ _ (by rw[a];exact b))
 rw[Jf c] at this;exact this
theorem Q2.next {l:List Wk}{M:Nat->zw}{v:Wk}{z:zw}(h:Q2 x l j M)(o:l.Pairwise DN)(c:l[j]?=some v)(d:zX x.G v.j5 x.i=k)(f:k<x.i)(p:SG x v)(n:qE (x.G k) v (M k) 0 z):Q2 x l (j+1) (Ew M k z):=by
 have b:Bz (x.G k) v (M k) z:=by
  rcases n.on (h.good k f) (h.comes c d f p) with⟨_,h⟩|⟨h,_⟩
  ·exact h
  ·unfold In at h;omega
 have g:(x.G k).S=v.j5:=by rw[← d];exact CN _ _ _ (by rw[d];exact f)
 have i:=(List.getElem?_eq_some_iff.1 c).1;have a:l.drop j=v :: l.drop (j+1):=by
  rw[List.drop_eq_getElem_cons i]
  congr 1
  exact(List.getElem?_eq_some_iff.1 c).2
 refine⟨?_,Sj h.good b,λu m=>?_⟩
 ·rw[List.take_add_one,c]
  exact .snoc _ _ _ _ k z h.done d f n
 ·refine(h.apt u (by rw[a];exact List.mem_cons_of_mem _ m)).after g b ?_
  have h2:(l.drop j).Pairwise _:=o.sublist (List.drop_sublist _ _);rw[a,List.pairwise_cons] at h2;have h3:=h2.1 u m
  rcases h3 with h3|h3|h3
  ·exact .inl (λe=>h3 e.symm)
  ·exact .inr (.inl (λe=>h3 e.symm))
  ·exact .inr (.inr (λe=>h3 e.symm))
end
def AS (w:World)(base:Nat)(l a:zw)(d b c:Option Addr)(g e f:Nat)(h:Option Addr)(k:Nat)(i:Option Addr)(m:Nat)(j:Option Addr)(n:Nat):Prop :=
 ((.slice h a.r k=Value.slice d l.r g/\a.r=l.r/\a.K=l.K)∨w.ownsRow base 220 4 (h,a.r,k) a.r (zH a.K a.r))/\((.slice i a.m m=Value.slice b l.m e/\a.m=l.m/\a.I=l.I)∨w.ownsRow base 228 4 (i,a.m,m) a.m (zF a.I a.m))/\((.slice j a.t n=Value.slice c l.t f/\a.t=l.t/\a.L=l.L)∨w.ownsRow base 234 2 (j,a.t,n) a.t (zL a.L a.t))
theorem AS.box {w':World}{base:Nat}{u:zw}{d a c:Option Addr}{e f:Nat}{m n p:Option Addr}{r s:Nat}{cs:Array Value}(h:AS w base l u d a c i e f m r n s p t)(k:zl w w' (λb=>b=g))(j:w.heap[g]?=some (.cells cs 145 (0,0))):AS w' base l u d a c i e f m r n s p t :=
 ⟨h.1.imp id (λo=>k.j1 o (λq h1 h2=>zQ o j dC q h1 h2)),h.2.1.imp id (λo=>k.j1 o (λq h1 h2=>zQ o j dC q h1 h2)),h.2.2.imp id (λo=>k.j1 o (λq h1 h2=>zQ o j dC q h1 h2))⟩
theorem AS.lower {base a:Nat}{r:zw}{d b c:Option Addr}{e f:Nat}{j k m:Option Addr}{p q:Nat}(h:AS w base l r d b c g e f j n k p m q)(i:a<=base):AS w a l r d b c g e f j n k p m q :=
 ⟨h.1.imp id (λo=>zo o i),h.2.1.imp id (λo=>zo o i),h.2.2.imp id (λo=>zo o i)⟩
def GL (pe:Nat->Addr)(s:qe)(v:Wk)(l:zw)(d b c:Option Addr)(h f g:Nat)(base:Nat)(e:Ending)(w:World):Prop :=
 (∃ (a:zw) (i:Option Addr) (n:Nat) (j:Option Addr) (o:Nat) (m:Option Addr) (p:Nat),e=.returned (.agg #[(i,a.r,n),(j,a.m,o),(m,a.t,p)])/\qE s v l 0 a/\AS w base l a d b c h f g i n j o m p)∨(∃ k:Nat,1<=k/\k<=8/\e=GK pe k/\qE s v l (k:Int) l)
theorem ak (s:qe)(v:Wk)(l:zw)(r q f c d:Option Addr)(u t j g i:Nat)(pe:Nat->Addr)(w:World)(O:v.E=true)
  (h:∀ V,Below w w V->Calls prog 249 #[.agg #[v.j5,(v.j3:Int),v.e,v.p.v,v.p.f,v.p.j,v.p.w,v.p.h,v.p.x,v.E],.agg #[(f,l.r,j),(c,l.m,g),(d,l.t,i)]] V λe w'=>GL pe s v l f c d j g i V.heap.size e w'/\Below V V w') :
  Calls prog 199 #[.agg #[v.j5,(v.j3:Int),v.e,v.p.v,v.p.f,v.p.j,v.p.w,v.p.h,v.p.x,v.E],.agg (s,r,u,q,t),.agg #[(f,l.r,j),(c,l.m,g),(d,l.t,i)]] w λe w'=>GL pe s v l f c d j g i w.heap.size e w'/\Below w w w':=by
 have H:=hI h;rw[O] at H ⊢;clear h O;obtain⟨K,M,I,J,L⟩:=Dn w (.cells #[v.j5,(v.j3:Int),v.e,v.p.v,v.p.f,v.p.j,v.p.w,v.p.h,v.p.x,.bool true] 268) (.cells (s,r,u,q,t) 140) (.cells #[(f,l.r,j),(c,l.m,g),(d,l.t,i)] 145) (.cells #[True,True,True] 145);have o:Below _ w ((((w.alloc (.cells #[v.j5,(v.j3:Int),v.e,v.p.v,v.p.f,v.p.j,v.p.w,v.p.h,v.p.x,.bool true] 268)).alloc (.cells (s,r,u,q,t) 140)).alloc (.cells #[(f,l.r,j),(c,l.m,g),(d,l.t,i)] 145)).alloc (.cells #[True,True,True] 145)):=zd (zd (zd (zd bZ _) _) _) _;go_enter func199,ntmps199;go_upto_region 1 with fail;generalize (((w.alloc _).alloc _).alloc _).alloc _=V at K M I J L o ⊢;obtain⟨w0,w1,w2,w3,w4,w5,w6,w7,w8,w9⟩:=mf K;obtain⟨X,Z,m⟩:=ZE I;go_wp2_with fail;clear w0 w1 w2 w3 w4 w5 w6 w7 w8 w9  X Z m;refine(H V o).mono ?_;rintro e Y ⟨F,y⟩;have n:=za J y;have x:=zb o y
 rcases F with⟨m,z,C,A,D,B,E,rfl,G,N⟩|⟨k,h1,h8,rfl,G⟩
 ·have R:=hI G
  obtain⟨r0,r1,r2⟩:=ZE n;obtain⟨T,U,W⟩:=FM n;have S:=hI (BN n (z,m.r,C) (A,m.m,D) (B,m.t,E));have P:Hid (Below _ w (((Y.setCell _ (z,m.r,C)).setCell _ (A,m.m,D)).setCell _ (B,m.t,E))):=((x.setCell (p:=(w.heap.size+1+1+1,0)) (by show _<=_+1;omega) _).setCell (p:=(w.heap.size+1+1+1,1)) (by show _<=_+1;omega) _).setCell (p:=(w.heap.size+1+1+1,2)) (by show _<=_+1;omega) _
  have Q:Hid (AS (((Y.setCell _ (z,m.r,C)).setCell _ (A,m.m,D)).setCell _ (B,m.t,E)) _ l m f c d j g i z C A D B E):=(N.lower o.size).box ((((zl.refl Y (λb=>b=_)).set (a:=⟨_,0,none⟩) rfl _).set (a:=⟨_,1,none⟩) rfl _).set (a:=⟨_,2,none⟩) rfl _) n
  clear G N J K M I n o x y;go_wp2;clear r0 r1 r2 T U W;obtain⟨z0,z1,z2⟩:=ZE S;exact Jj (by simp[results,results199,go_sem,z0,z1,z2]) rfl ⟨.inl ⟨m,z,C,A,D,B,E,rfl,R,Q⟩,P⟩
 ·exact⟨rfl,.inr ⟨k,h1,h8,rfl,G⟩,x⟩
theorem SH (s:qe)(v:Wk)(l:zw)(r q f c d:Option Addr)(u t j g i:Nat)(pe:Nat->Addr)(w:World)(O:v.E=false)
  (h:∀ V,Below w w V->Calls prog 250 #[.agg #[v.j5,(v.j3:Int),v.e,v.p.v,v.p.f,v.p.j,v.p.w,v.p.h,v.p.x,v.E],.agg (s,r,u,q,t),.agg #[(f,l.r,j),(c,l.m,g),(d,l.t,i)]] V λe w'=>GL pe s v l f c d j g i V.heap.size e w'/\Below V V w') :
  Calls prog 199 #[.agg #[v.j5,(v.j3:Int),v.e,v.p.v,v.p.f,v.p.j,v.p.w,v.p.h,v.p.x,v.E],.agg (s,r,u,q,t),.agg #[(f,l.r,j),(c,l.m,g),(d,l.t,i)]] w λe w'=>GL pe s v l f c d j g i w.heap.size e w'/\Below w w w':=by
 have H:=hI h;rw[O] at H ⊢;clear h O;obtain⟨L,K,I,J,M⟩:=Dn w (.cells #[v.j5,(v.j3:Int),v.e,v.p.v,v.p.f,v.p.j,v.p.w,v.p.h,v.p.x,.bool false] 268) (.cells (s,r,u,q,t) 140) (.cells #[(f,l.r,j),(c,l.m,g),(d,l.t,i)] 145) (.cells #[True,True,True] 145);have o:Below _ w ((((w.alloc (.cells #[v.j5,(v.j3:Int),v.e,v.p.v,v.p.f,v.p.j,v.p.w,v.p.h,v.p.x,.bool false] 268)).alloc (.cells (s,r,u,q,t) 140)).alloc (.cells #[(f,l.r,j),(c,l.m,g),(d,l.t,i)] 145)).alloc (.cells #[True,True,True] 145)):=zd (zd (zd (zd bZ _) _) _) _;go_enter func199,ntmps199;go_upto_region 1 with fail;generalize (((w.alloc _).alloc _).alloc _).alloc _=V at L K I J M o ⊢;obtain⟨w0,w1,w2,w3,w4,w5,w6,w7,w8,w9⟩:=mf L;obtain⟨s0,s1,s2,s3,s4,s5,s6,s7⟩:=ju K;obtain⟨X,Z,m⟩:=ZE I;go_wp2_with fail;clear w0 w1 w2 w3 w4 w5 w6 w7 w8 w9 s0 s1 s2 s3 s4 s5 s6 s7 X Z m;refine(H V o).mono ?_;rintro e Y ⟨F,y⟩;have n:=za J y;have x:=zb o y
 rcases F with⟨m,z,C,A,D,B,E,rfl,G,N⟩|⟨k,h1,h8,rfl,G⟩
 ·have R:=hI G
  obtain⟨r0,r1,r2⟩:=ZE n;obtain⟨T,U,W⟩:=FM n;have S:=hI (BN n (z,m.r,C) (A,m.m,D) (B,m.t,E));have P:Hid (Below _ w (((Y.setCell _ (z,m.r,C)).setCell _ (A,m.m,D)).setCell _ (B,m.t,E))):=((x.setCell (p:=(w.heap.size+1+1+1,0)) (by show _<=_+1;omega) _).setCell (p:=(w.heap.size+1+1+1,1)) (by show _<=_+1;omega) _).setCell (p:=(w.heap.size+1+1+1,2)) (by show _<=_+1;omega) _
  have Q:Hid (AS (((Y.setCell _ (z,m.r,C)).setCell _ (A,m.m,D)).setCell _ (B,m.t,E)) _ l m f c d j g i z C A D B E):=(N.lower o.size).box ((((zl.refl Y (λb=>b=_)).set (a:=⟨_,0,none⟩) rfl _).set (a:=⟨_,1,none⟩) rfl _).set (a:=⟨_,2,none⟩) rfl _) n
  clear G N J L K I n o x y;go_wp2;clear r0 r1 r2 T U W;obtain⟨z0,z1,z2⟩:=ZE S;exact Jj (by simp[results,results199,go_sem,z0,z1,z2]) rfl ⟨.inl ⟨m,z,C,A,D,B,E,rfl,R,Q⟩,P⟩
 ·exact⟨rfl,.inr ⟨k,h1,h8,rfl,G⟩,x⟩
theorem gz (s:qe)(v:Wk)(l:zw)(p o d a b:Option Addr)(u t i f g:Nat)(pe:Nat->Addr)(w:World)(O:qI w pe)(D:qf s l)(hr:v.j3<3)(T:v.E=false->In v.e 1 9999/\Zc v.p/\Q1 v.p.f v.p.w v.j3=true)(n:if v.E=true then Eb l v.j3 v.e else ¬ Eb l v.j3 v.e)
  (L:s.la.n<=1048576/\s.M.n<=1048576) (P:zJ w p s.la) (N:zJ w o s.M) (U:zw.Is w [(d,l.r,i),(a,l.m,f),(b,l.t,g)] l) :
  Calls prog 199 #[.agg #[v.j5,(v.j3:Int),v.e,v.p.v,v.p.f,v.p.j,v.p.w,v.p.h,v.p.x,v.E],.agg (s,p,u,o,t),.agg #[(d,l.r,i),(a,l.m,f),(b,l.t,g)]] w λe w'=>GL pe s v l d a b i f g w.heap.size e w'/\Below w w w':=by
 have l1:=D.1.2.1;have l2:=D.2.1.2.1;have l3:=D.2.2.2.1;obtain⟨_,_,_,_,_,_,F,M,S,J,Q,K,R⟩:=U;simp only[List.cons.injEq,Value.slice.injEq,true_and,and_true] at F;obtain⟨⟨rfl,rfl⟩,⟨rfl,rfl⟩,rfl,rfl⟩:=F;have I:v.j3=0∨v.j3=1∨v.j3=2:=oM
 cases hg:v.E with
 |true =>
  rw[hg,Jf rfl] at n;rw[← hg];refine ak s v l p o d a b u t i f g pe w hg λV y=>?_
  unfold Eb at n
  rcases I with m|m|m
  ·rw[Jf m] at n
   obtain⟨r,h1,h2,h3⟩:=CO D.stays_one n;refine(kl v l d a b i f g r V m oM h1 h2 (λj H e=>Decidable.byContradiction λc=>h3 j H c e) (M.j0 y)).mono ?_
   rintro e w' ⟨⟨B,C,rfl,A⟩,k⟩;exact⟨.inl ⟨_,B,C,a,f,b,g,rfl,.noStay r m hg h1 h2,.inr A,.inl ⟨rfl,rfl,rfl⟩,.inl ⟨rfl,rfl,rfl⟩⟩,k⟩
  ·rw[Je oM,Jf m] at n
   obtain⟨r,h1,h2,h3⟩:=CO D.rooms_one n;refine(km v l d a b i f g r V m oM h1 h2 (λj H e=>Decidable.byContradiction λc=>h3 j H c e) (J.j0 y)).mono ?_
   rintro e w' ⟨⟨B,C,rfl,A⟩,k⟩;exact⟨.inl ⟨_,d,i,B,C,b,g,rfl,.noRoom r m hg h1 h2,.inl ⟨rfl,rfl,rfl⟩,.inr A,.inl ⟨rfl,rfl,rfl⟩⟩,k⟩
  ·rw[Je oM,Je oM] at n
   obtain⟨r,h1,h2,h3⟩:=CO D.seats_one n;refine(kn v l d a b i f g r V m oM h1 h2 (λj H e=>Decidable.byContradiction λc=>h3 j H c e) (K.j0 y)).mono ?_
   rintro e w' ⟨⟨B,C,rfl,A⟩,k⟩;exact⟨.inl ⟨_,d,i,a,f,B,C,rfl,.noSeat r m hg h1 h2,.inl ⟨rfl,rfl,rfl⟩,.inl ⟨rfl,rfl,rfl⟩,.inr A⟩,k⟩
 |false =>
  rw[hg,Je dC] at n;obtain⟨c1,c2,c3⟩:=T hg;rw[← hg];refine SH s v l p o d a b u t i f g pe w hg λV y=>?_
  unfold Eb at n;unfold Q1 at c3
  rcases I with m|m|m
  ·rw[Jf m] at n
   rw[Je oM,Jf m,decide_eq_true_eq] at c3;have G:=c2.2.1.resolve_left (λh=>by omega)
   refine(gu s v l p o d a b u t i f g pe V (O.j0 y) D m hg c1 c2 G n L.1 (P.j0 y) (M.j0 y) S).mono ?_;rintro e w' ⟨⟨x,B,C,rfl,z,A⟩|⟨rfl,z⟩,k⟩
   ·exact⟨.inl ⟨_,B,C,a,f,b,g,rfl,z,.inr A,.inl ⟨rfl,rfl,rfl⟩,.inl ⟨rfl,rfl,rfl⟩⟩,k⟩
   ·exact⟨.inr ⟨5,by decide,by decide,rfl,z⟩,k⟩
  ·rw[Je oM,Jf m] at n
   rw[Je oM,Je oM,decide_eq_true_eq] at c3;have E:=c2.2.2.resolve_left (λh=>by omega)
   refine(gx s v l p o d a b u t i f g pe V (O.j0 y) D m hg c1 c2 ⟨E.1,λh=>E.2.elim (λq=>by rw[q.1] at h;cases h) (λq=>q.2)⟩ n L.2 (N.j0 y) (J.j0 y) Q).mono ?_
   rintro e w' ⟨⟨x,B,C,rfl,z,A⟩|⟨rfl,z⟩,k⟩
   ·exact⟨.inl ⟨_,d,i,B,C,b,g,rfl,z,.inl ⟨rfl,rfl,rfl⟩,.inr A,.inl ⟨rfl,rfl,rfl⟩⟩,k⟩
   ·exact⟨.inr ⟨6,by decide,by decide,rfl,z⟩,k⟩
  ·rw[Je oM,Je oM] at n
   refine(gy s v l p o d a b u t i f g pe V (O.j0 y) D m hg c1 c2 n (K.j0 y) R).mono ?_;rintro e w' ⟨⟨x,B,C,rfl,z,A⟩|⟨rfl,z⟩,k⟩
   ·exact⟨.inl ⟨_,d,i,a,f,B,C,rfl,z,.inl ⟨rfl,rfl,rfl⟩,.inl ⟨rfl,rfl,rfl⟩,.inr A⟩,k⟩
   ·exact⟨.inr ⟨7,by decide,by decide,rfl,z⟩,k⟩
section
open Go.RowKit Classical
theorem aq {S:Nat->ql}(h:∀ j,j<n->(S j).e≠q):As S q n=-1:=by
 induction n with
 |zero=>rfl
 |succ n ih=>rw[As,Je (h n oM),ih (λj hj=>h j oM)]
theorem au {S:Nat->ql}(hi:i<n)(a:(S i).e=q)(h:∀ j,j<n->(S j).e=q->j=i):As S q n=(S i).ln:=by
 induction n with
 |zero=>omega
 |succ n ih =>
  by_cases c:(S n).e=q
  ·rw[As,Jf c,h n oM c]
  ·rw[As,Je c]
   exact ih (by have:i≠n:=λe=>c (e ▸ a);omega) (λj hj=>h j oM)
theorem SJ {S:Nat->zU}(h:∀ j,j<n->(S j).e≠q):QT S q n=-1:=by
 induction n with
 |zero=>rfl
 |succ n ih=>rw[QT,Je (h n oM),ih (λj hj=>h j oM)]
theorem SK {S:Nat->zU}(hi:i<n)(a:(S i).e=q)(h:∀ j,j<n->(S j).e=q->j=i):QT S q n=(S i).H:=by
 induction n with
 |zero=>omega
 |succ n ih =>
  by_cases c:(S n).e=q
  ·rw[QT,Jf c,h n oM c]
  ·rw[QT,Je c]
   exact ih (by have:i≠n:=λe=>c (e ▸ a);omega) (λj hj=>h j oM)
theorem ks {s:qe}(h:qf s l)(q:Int):As l.K q l.r=if Qb (Zm l.K) q l.r<l.r then (l.K (Qb (Zm l.K) q l.r)).ln else -1:=by
 have u1:∀ i,_->¬ Qh _ i (Zm _ i):=λi b=>(h.1.2.2.1 i b).2.2.2.2
 by_cases c:Qb (Zm l.K) q l.r<l.r
 ·rw[Jf c];exact au c (DA _ q _ c) (λj a e=>(Fl u1 a e).symm)
 ·rw[Je c];exact aq (λj a e=>c ((DB _ _ _).1 ⟨j,a,e⟩))
theorem mt {s:qe}(h:qf s l)(q:Int):QT l.I q l.m=if Qb (Zl l.I) q l.m<l.m then (l.I (Qb (Zl l.I) q l.m)).H else -1:=by
 have u1:∀ i,_->¬ Qh _ i (Zl _ i):=λi b=>(h.2.1.2.2.1 i b).1.2.1
 by_cases c:Qb (Zl l.I) q l.m<l.m
 ·rw[Jf c];exact SK c (DA _ q _ c) (λj a e=>(Fl u1 a e).symm)
 ·rw[Je c];exact SJ (λj a e=>c ((DB _ _ _).1 ⟨j,a,e⟩))
theorem ic (l:zw)(S:Nat->zA)(z:Int)(n:Nat):(ZU l S z n).length=(Cn (λi=>OQ (S i) z) n).length/\∀ j,j<(Cn (λi=>OQ (S i) z) n).length->BS (ZU l S z n) j=IM l (S (Oj (λi=>OQ (S i) z) n j)):=by
 induction n with
 |zero=>exact⟨rfl,λj a=>by simp[Cn] at a⟩
 |succ n ih =>
  obtain⟨c,f⟩:=ih
  by_cases h:OQ (S n) z
  ·have d:jt _ z:=h
   rw[FF d,Ca h,List.length_append,List.length_append,c];refine⟨rfl,λj a=>?_⟩
   by_cases e:j=(Cn (λi=>OQ (S i) z) n).length
   ·subst e
    rw[Ec _ h];unfold BS;rw[← c];simp
   ·have b:j<(Cn (λi=>OQ (S i) z) n).length:=by simp at a;omega
    rw[CG _ b,← f j b];unfold BS;rw[List.getD_eq_getElem?_getD,List.getD_eq_getElem?_getD,List.getElem?_append_left oM]
  ·have d:¬ jt _ z:=h
   rw[Ed d,Fk h];exact⟨c,λj a=>by rw[CG _ a,← f j a]⟩
theorem ax {u3 u4:Value}(h:w.heap[g]?=some (.cells #[u0,u1,u2,u3,u4] t (0,0)))(v:Value):(w.setCell (g,3) v).heap[g]?=some (.cells #[u0,u1,u2,v,u4] t (0,0)):=by simpa using zk h 3 v
theorem Lr {u3 u4:Value}(h:w.heap[g]?=some (.cells #[u0,u1,u2,u3,u4] t (0,0)))(v:Value):(w.setCell (g,4) v).heap[g]?=some (.cells #[u0,u1,u2,u3,v] t (0,0)):=by simpa using zk h 4 v
theorem SL (x:zY)(g9 g7 V:Option Addr)(b7 h5 a5 k:Nat)(w:World)(hs:zY.Short x 1048576)(i3:qy w g9 x.i x.G)(b9:ZA w g7 x.l x.F)(j8:qL w V x.g x.u)(j9:x.g<=30)(k3:k<x.i)(k4:x.l=x.i)(f5:qf (x.G k) (x.F k)) :
  Calls prog 204 #[.agg #[.slice g9 x.i b7,.slice g7 x.l h5,.slice V x.g a5],int i64 k] w λe w'=>(∃ v,e=.returned v/\w'.ownsRow w 203 5 v (ZU (x.F k) x.u (x.G k).S x.g).length (Zh (BS (ZU (x.F k) x.u (x.G k).S x.g)) (ZU (x.F k) x.u (x.G k).S x.g).length))/\Below w w w':=by
 obtain⟨j0,ji,d5,d6,d7⟩:=info_parts Tryz.infoRow;have g5:=hI hs;obtain⟨sb,so,_,_,_,_,rfl,f0,_⟩:=i3 k k3;obtain⟨zi,i5⟩:=nM ((x.G k).S);rw[← i5] at f0 ⊢;have k8:sb<w.heap.size:=Ja w _ f0;obtain⟨D,hD,hJ⟩:=b9;obtain⟨lb,lo,rfl,L⟩:=hD k oM;obtain⟨l,b9⟩:=nM (x.F k);obtain⟨b4,b8,b3,b6,h0,h6,K,f7,i8,f6,i6,i4,i7⟩:=hJ k oM;have d3:=hs.2.1.2 k oM;rw[← b9] at K f7 i8 f6 i6 i4 i7 d3 f5 ⊢;have n2:=d3.1;have n3:=d3.2.1;have f8:lb<w.heap.size:=Ja w _ (L 0 dC);have g6:=hI f7;have b1:=hI f6;have g4:=hI f5;obtain⟨C,hC,hI⟩:=j8;have HC:Hid (Qo w V _ 13 C):=hC;have HI:Hid _:=hI;have g3:Hid _:=f0;have d0:∀ o,(w.alloc o).cell? _=some (.slice b4 _ b8):=λo=>((zd (Ji _ w) o).cell (p:=⟨lb,lo+_,_⟩) f8).trans (rC K (L 0 dC))
 have d1:∀ o,(w.alloc o).cell? _=some (.slice b3 _ b6):=λo=>((zd (Ji _ w) o).cell f8).trans (rC K (L 1 dC))
 have d2:∀ o,(w.alloc o).cell? _=some (.slice h0 _ h6):=λo=>((zd (Ji _ w) o).cell f8).trans (rC K (L 2 dC))
 obtain⟨P,hP⟩:=nM (λi=>OQ (x.u i) zi)
 obtain⟨m,d4⟩:=nM ((Cn P x.g).length);have k9:m<=30:=by rw[d4];exact Jp (SI P _) j9
 have e4:Hid _:=d4;have e0:Hid ((ZU l x.u zi x.g).length=m/\∀ j,j<m->BS (ZU l x.u zi x.g) j=IM l (x.u (Oj P x.g j))):=by
  show _/\_
  rw[d4,hP];exact ic l _ zi _
 obtain⟨B,e5⟩:=nM (λj=>x.u (Oj P x.g j))
 obtain⟨C',e6⟩:=nM (λj=>C (Oj P x.g j))
 have j2:Hid (∀ j,_->zA.Is w (C' j) (B j)):=λj hj=>by
  rw[e6,e5];exact HI _ (Ok P _ j (by rw[← e4.out];exact hj)).1
 have j3:Hid (∀ j,_->BS _ j=IM l (B j)):=λj hj=>by rw[e5];exact e0.2 j hj
 have f9:Hid (∀ w',_->Calls _ 101 _ w' λe w2=>(∃ ao c,e=.returned (.slice ao m c)/\Qo w2 ao m 13 C')/\_):=λw' h =>
  (Fo V _ a5 _ C zi w' g5.2.2.1 g5.2.2.2 (HC.j0 h) (λj hj=>(HI.out j hj).j0 h)).mono λ_ _ ⟨⟨ao,c,a,_,b⟩,d⟩=>by
   rw[e4.out,e6,hP];exact⟨⟨ao,c,a,Qo.of_own b⟩,d⟩
 have k0:=n0 k;have k1:(k:Int)<(x.l:Int):=oM;have k2:(k:Int)<(x.i:Int):=oM;clear k4 i3 hD hJ L K f7 i8 f6 i6 i4 i7 d3 hC hI f0 d4 e5 e6 hP hs f5 i5 b9 HC HI e4;have Y:Below _ w ((w.alloc (.cells #[(some (sb,so),x.i,b7),(some (lb,lo),x.l,h5),(V,x.g,a5)] 38)).alloc (.cells #[(b4,l.r,b8),(b3,l.m,b6),(h0,l.t,h6)] 145)):=zd (zd bZ _) _;have bO:=Cs Y;have bL:=Dt Y;go_enter func204,ntmps204;go_upto_region 3 with fail;generalize (w.alloc _).alloc _=X at Y bO bL ⊢;clear d0 d1 d2;have BW:Hid (∀ w',_->Below _ w w'):=λw' h=>zb Y h
 have KS:Hid (∀ w',Below _ X w'->(w'.cell? _=some (.slice _ _ b7)/\w'.cell? _=some (.slice V _ a5)/\_)):=λw' h=>by
  have g2:=za bO h;exact⟨bC g2 0,bC g2 2,tR (zb Y h) g3 k8⟩
 go_cut [25,26,27] (λv nn i wx=>∃ ao c,v=.slice ao m c/\nn=int i64 m/\i=int i64 0/\Qo wx ao m 13 C'/\Below X X wx)
 case first =>
  go_region_held3 (λw'=>w'.cell? (w.heap.size,0)=some (some (sb,so),x.i,b7)/\w'.cell? (w.heap.size,2)=some (V,x.g,a5)/\w'.cell? (sb,so+k*8)=some (int i64 zi))
   ((refine KS _ ?_;exact(by repeat(first|exact bZ|refine Jh ?_|refine zb ?_ e7))))
   (first|(go_at_call 101;refine Jm (f9 _ (BW _ (by repeat(first|exact bZ|refine Jh ?_|refine zb ?_ e7)))) ?_;rintro e w4 ⟨⟨g8,c4,rfl,k5⟩,e7⟩))
  all_goals
   go_wp2;go_meet;exact⟨g8,c4,rfl,rfl,rfl,Qo.j0 k5 (by repeat(first|exact bZ|refine Jh ?_)),(by repeat(first|exact bZ|refine Jh ?_|refine zb ?_ e7))⟩
 case rest =>
 obtain⟨g8,c4,rfl,rfl,rfl,e2,e8⟩:=hcut;have j4:=hI e2;have Q:=zb Y e8;have h4:=za bL e8;have T:=hI h4;clear e2 bO bL Y e8 KS BW f9 g3 h4 k0 k1 k2;obtain⟨R,hR⟩:=nM (λj=>IM l (B j))
 have HR:Hid (∀ j,R j=_):=λj=>by rw[hR]
 clear hR;go_wp2;go_loopw [5,8,9,10,11,27] (λv _ _ _ _ q wr=>∃ i,i<=m/\q=int i64 i/\wr.ownsRow wc 203 5 v i (Zh R i)/\Below wc wc wr) (λ_ _ _ _ _ q _=>m - (intOf q).toNat)
 case atStart=>exact⟨0,Jq _,rfl,⟨rfl,.inl ⟨rfl,rfl⟩⟩,bZ⟩
 case round =>
  obtain⟨i,hi,rfl,a1,f⟩:=hrel;have h7:=zb Q f
  by_cases hlt2:i<m
  ·obtain⟨bb,bo,rfl,L⟩:=j4 i hlt2
   obtain⟨b,e9⟩:=nM (B i);obtain⟨b2,b5,K,_,_⟩:=j2 i hlt2;rw[← e9] at K;have j1:=hI e9;have F:bb<wc.heap.size:=Ja wc _ (L 0 dC);have c0:wr.cell? _=some (.int _ _):=(f.cell (p:=⟨bb,bo+_,_⟩) F).trans (rC K (L 0 dC));have c1:wr.cell? _=some (.int _ _):=(f.cell F).trans (rC K (L 1 dC));have c2:wr.cell? _=some (.string _):=(f.cell F).trans (rC K (L 2 dC));have c3:wr.cell? _=some (.slice b2 _ b5):=(f.cell F).trans (rC K (L 3 dC));have c4:wr.cell? _=some (.int _ _):=(f.cell F).trans (rC K (L 4 dC));have c5:wr.cell? _=some (.int _ _):=(f.cell F).trans (rC K (L 5 dC));have c6:wr.cell? _=some (.int _ _):=(f.cell F).trans (rC K (L 6 dC));have c7:wr.cell? _=some (.int _ _):=(f.cell F).trans (rC K (L 7 dC));have c8:wr.cell? _=some (.bool _):=(f.cell F).trans (rC K (L 8 dC));have c9:wr.cell? _=some (.int _ _):=(f.cell F).trans (rC K (L 9 dC));have j5:wr.cell? _=some (.int _ _):=(f.cell F).trans (rC K (L 10 dC));have j6:wr.cell? _=some (.int _ _):=(f.cell F).trans (rC K (L 11 dC));have j7:wr.cell? _=some (.int _ _):=(f.cell F).trans (rC K (L 12 dC));clear L K e9;have bB:((wr.alloc _).alloc (.cells #[b.k,b.j1,b.v,int i64 (-1),int i64 (-1)] 203)).heap[wr.heap.size]?=some (.cells (b,b2,b5) 150 (0,0)):=zg (Jb wr _) _;have bR:=Kw bB;have a6:Below _ wc ((wr.alloc (.cells (b,b2,b5) 150)).alloc (.cells #[b.k,b.j1,b.v,int i64 (-1),int i64 (-1)] 203)):=zd (zd f _) _;have H:=zm (zd (zd (Ji _ wr) (.cells (b,b2,b5) 150)) (.cells #[b.k,b.j1,b.v,int i64 (-1),int i64 (-1)] 203)) a1;have a4:=hI (λg hg=>(a1.lt g hg).2)
   have d8:((wr.alloc _).alloc _).cell? _=some (.slice b4 _ b8):=bC (za T a6) 0;have y1:=bC bB 1;have k6:=f.size;go_wp2_with fail;generalize hrb:wr.heap.size=rb at bB bR a4 y1 k6 ⊢;generalize (wr.alloc _).alloc _=R0 at bB bR a6 H d8 y1 ⊢;clear hrb c0 c1 c2 c3 c4 c5 c6 c7 c8 c9 j5 j6 j7 f h7 a1 d8 y1;refine(BP b4 _ b8 _ _ _ n2 (g6.j0 (zb Q a6))).mono ?_;rintro e Y1 ⟨rfl,t⟩;have I:=za bB t;have y:=za bR t;have M:zl R0 Y1 (λg=>g=rb+1):=zl.of_below t
   have z:=zb a6 t;clear bB bR t a6;have l1:wc.heap.size<rb+1:=oM;have e3:=hI (ks g4 b.e);have a2:=hI (mt g4 b.e);obtain⟨ln,f4⟩:=nM (As l.K b.e l.r);obtain⟨J,f1⟩:=nM (QT l.I b.e l.m);rw[← f4] at e3;rw[← f1] at a2;have b0:Hid (R i=⟨b.k,b.j1,b.v,ln,J⟩):=by show R i=_;rw[HR.out,← j1.out];unfold IM;rw[f4,f1]
   clear f4 f1;have l0:¬ (w.heap.size+1=rb+1):=by have:=zD T;omega
   have a7:¬ (rb=rb+1):=oM;have f2:wc.heap.size<=rb+1:=oM
   by_cases hf1:Qb (Zm l.K) b.e l.r<l.r
   ·skip
    rw[CS hf1];have a3:=by have:=e3;rw[Jf hf1] at this;exact this
    obtain⟨q1,e1⟩:=nM (Qb (Zm l.K) b.e l.r);rw[← e1] at hf1 a3 ⊢;clear e1;obtain⟨tb,i9,rfl,g0,g1,_,_⟩:=g6 q1 hf1;have a9:=Ja w _ g0;have s1:Y1.cell? _=some (.int _ ln):=((zb Q z).cell (p:=⟨tb,_+1,_⟩) a9).trans (by rw[a3.out];exact g1)
    have d0:decide (0<=(q1:Int))=true:=sM;have i1:=n0 q1;have i2:(q1:Int)<(l.r:Int):=oM;have d8:=bC (za T z) 0;have r3:=bC y 3;have z3:=zc y 3;have A:=ax y ln;have G:=zG I 3 ln a7;have E:=M.set (a:=⟨_,3,none⟩) rfl ln;have s:Below _ wc (Y1.setCell _ ln):=z.setCell (p:=⟨_,3,none⟩) f2 _;have y1:=bC G 1;have d9:=zf (za T s) 1 _ rfl;go_wp2_with fail;generalize (Y1.setCell _ _)=Z1 at A G E s y1 d9 ⊢;clear y I M z y1 d9 s1 d0 i1 i2 d8 r3 z3 g0 g1;refine(QY b3 _ b6 _ _ _ n3 (b1.j0 (zb Q s))).mono ?_;rintro e O ⟨rfl,t⟩;have I:=za G t;have y:=za A t;have M:=E.trans (zl.of_below t);have z:=zb s t;clear G A E s t
    by_cases hf2:Qb (Zl l.I) b.e l.m<l.m
    ·skip
     rw[CS hf2];have N:=by have:=a2;rw[Jf hf2] at this;exact this
     obtain⟨q2,S⟩:=nM (Qb (Zl l.I) b.e l.m);rw[← S] at hf2 N ⊢;clear S;obtain⟨tb,i9,rfl,g0,g1,_,_⟩:=b1 q2 hf2;have a9:=Ja w _ g0;have s1:O.cell? _=some (.int _ J):=((zb Q z).cell (p:=⟨tb,_+1,_⟩) a9).trans (by rw[N.out];exact g1)
     have d0:decide (0<=(q2:Int))=true:=sM;have i1:=n0 q2;have i2:(q2:Int)<(l.m:Int):=oM;have k7:=bC (za T z) 1;have r3:=bC y 4;have z3:=zc y 4;have A:=Lr y J;have G:=zG I 4 J a7;have E:=M.set (a:=⟨_,4,none⟩) rfl J;have s:Below _ wc (O.setCell _ J):=z.setCell (p:=⟨_,4,none⟩) f2 _;obtain⟨t0,t1,t2,t3,t4⟩:=nk A;have n:=E.j1 H (λg hg e=>by have:=a4 g hg;have e:=e;omega)
     have r:wc.heap.size<=((O.setCell _ _).alloc (.cells #[b.k,b.j1,b.v,ln,J] 203)).heap.size:=(zd s _).size;have U:Hid (∀ W,(some ⟨(O.setCell ⟨rb+1,4,none⟩ (int i64 J)).heap.size,0,none⟩:Option Addr)=some W->∀ j u,([int i64 b.k,.string b.j1,int i64 b.v,int i64 ln,int i64 J]:_)[j]?=some u->((O.setCell ⟨rb+1,4,none⟩ (int i64 J)).alloc (.cells #[int i64 b.k,.string b.j1,int i64 b.v,int i64 ln,int i64 J] 203)).cell? (W.add j)=some u):=by
      intro W e
      cases e
      exact Jo (Jb _ _)
     go_wp2_with (first|(at_builtin;refine zu _ rfl _ _ 39 rfl _ 203 j0 _ 5 48 underlying39 ji d5 d6 d7 rfl (by decide) _ i _ (by rfl) (n.alloc _) _ 1 1 [_,_,_,_,_] rfl (λh=>(by cases h)) rfl (by simpa using U.out) (by intro u hu;simp at hu;rcases hu with rfl|rfl|rfl|rfl|rfl <;> rfl) (by unfold maxLen;omega) (by omega) (by first|exact r|simpa using r) ?_;intro v' w3 a0 Z))
     go_roundw
     case rel =>
      refine⟨i+1,by omega,by go_num,?_,(zd s _).grown Z r (λj hj=>(n.lt j hj).1)⟩
      rw[BE,b0.out];exact a0
     case measure=>simp[intOf];omega
    ·skip
     have N:=by have:=a2;rw[Je hf2] at this;exact this
     have a8:=CT hf2;rw[a8];clear a8;have A:=y;have G:=I;have E:=M;have s:=z;obtain⟨t0,t1,t2,t3,t4⟩:=nk A;have n:=E.j1 H (λg hg e=>by have:=a4 g hg;have e:=e;omega)
     have r:wc.heap.size<=(O.alloc (.cells #[b.k,b.j1,b.v,ln,int i64 (-1)] 203)).heap.size:=(zd s _).size;have U:Hid (∀ W,(some ⟨O.heap.size,0,none⟩:Option Addr)=some W->∀ j u,([int i64 b.k,.string b.j1,int i64 b.v,int i64 ln,int i64 (-1)]:_)[j]?=some u->(O.alloc (.cells #[int i64 b.k,.string b.j1,int i64 b.v,int i64 ln,int i64 (-1)] 203)).cell? (W.add j)=some u):=by
      intro W e
      cases e
      exact Jo (Jb O _)
     go_wp2_with (first|(at_builtin;refine zu _ rfl _ _ 39 rfl _ 203 j0 _ 5 48 underlying39 ji d5 d6 d7 rfl dC _ i _ (by rfl) (n.alloc _) _ 1 1 [_,_,_,_,_] rfl (λh=>(by cases h)) rfl (by exact U) (by intro u hu;simp at hu;rcases hu with rfl|rfl|rfl|rfl|rfl <;> rfl) (by unfold maxLen;omega) oM (by first|exact r|simpa using r) ?_;intro v' w3 a0 Z))
     go_roundw
     case rel =>
      refine⟨i+1,by omega,by go_num,?_,(zd s _).grown Z r (λj hj=>(n.lt j hj).1)⟩
      rw[BE,b0.out];rw[N.out];exact a0
     case measure=>simp[intOf];omega
   ·skip
    have a3:=by have:=e3;rw[Je hf1] at this;exact this
    have i0:=CT hf1;rw[i0];clear i0;have A:=y;have G:=I;have E:=M;have s:=z;have y1:=bC G 1;have d9:=bC (za T s) 1;go_wp2_with fail;clear y I M z y1 d9 ;refine(QY b3 _ b6 _ _ _ n3 (b1.j0 (zb Q s))).mono ?_;rintro e O ⟨rfl,t⟩;have I:=za G t;have y:=za A t;have M:=E.trans (zl.of_below t);have z:=zb s t;clear G A E s t
    by_cases hf2:Qb (Zl l.I) b.e l.m<l.m
    ·skip
     rw[CS hf2];have N:=by have:=a2;rw[Jf hf2] at this;exact this
     obtain⟨q2,S⟩:=nM (Qb (Zl l.I) b.e l.m);rw[← S] at hf2 N ⊢;clear S;obtain⟨tb,i9,rfl,g0,g1,_,_⟩:=b1 q2 hf2;have a9:=Ja w _ g0;have s1:O.cell? _=some (.int _ J):=((zb Q z).cell (p:=⟨tb,_+1,_⟩) a9).trans (by rw[N.out];exact g1)
     have d0:decide (0<=(q2:Int))=true:=sM;have i1:=n0 q2;have i2:(q2:Int)<(l.m:Int):=oM;have k7:=bC (za T z) 1;have r3:=bC y 4;have z3:=zc y 4;have A:=Lr y J;have G:=zG I 4 J a7;have E:=M.set (a:=⟨_,4,none⟩) rfl J;have s:Below _ wc (O.setCell _ J):=z.setCell (p:=⟨_,4,none⟩) f2 _;obtain⟨t0,t1,t2,t3,t4⟩:=nk A;have n:=E.j1 H (λg hg e=>by have:=a4 g hg;have e:=e;omega)
     have r:wc.heap.size<=((O.setCell _ _).alloc (.cells #[b.k,b.j1,b.v,int i64 (-1),J] 203)).heap.size:=(zd s _).size;have U:Hid (∀ W,(some ⟨(O.setCell ⟨rb+1,4,none⟩ (int i64 J)).heap.size,0,none⟩:Option Addr)=some W->∀ j u,([int i64 b.k,.string b.j1,int i64 b.v,int i64 (-1),int i64 J]:_)[j]?=some u->((O.setCell ⟨rb+1,4,none⟩ (int i64 J)).alloc (.cells #[int i64 b.k,.string b.j1,int i64 b.v,int i64 (-1),int i64 J] 203)).cell? (W.add j)=some u):=by
      intro W e
      cases e
      exact Jo (Jb _ _)
     go_wp2_with (first|(at_builtin;refine zu _ rfl _ _ 39 rfl _ 203 j0 _ 5 48 underlying39 ji d5 d6 d7 rfl (by decide) _ i _ (by rfl) (n.alloc _) _ 1 1 [_,_,_,_,_] rfl (λh=>(by cases h)) rfl (by simpa using U.out) (by intro u hu;simp at hu;rcases hu with rfl|rfl|rfl|rfl|rfl <;> rfl) (by unfold maxLen;omega) (by omega) (by first|exact r|simpa using r) ?_;intro v' w3 a0 Z))
     go_roundw
     case rel =>
      refine⟨i+1,by omega,by go_num,?_,(zd s _).grown Z r (λj hj=>(n.lt j hj).1)⟩
      rw[BE,b0.out];rw[a3.out];exact a0
     case measure=>simp[intOf];omega
    ·skip
     have N:=by have:=a2;rw[Je hf2] at this;exact this
     have a8:=CT hf2;rw[a8];clear a8;have A:=y;have G:=I;have E:=M;have s:=z;obtain⟨t0,t1,t2,t3,t4⟩:=nk A;have n:=E.j1 H (λg hg e=>by have:=a4 g hg;have e:=e;omega)
     have r:wc.heap.size<=(O.alloc (.cells #[b.k,b.j1,b.v,int i64 (-1),int i64 (-1)] 203)).heap.size:=(zd s _).size;have U:Hid (∀ W,(some ⟨O.heap.size,0,none⟩:Option Addr)=some W->∀ j u,([int i64 b.k,.string b.j1,int i64 b.v,int i64 (-1),int i64 (-1)]:_)[j]?=some u->(O.alloc (.cells #[int i64 b.k,.string b.j1,int i64 b.v,int i64 (-1),int i64 (-1)] 203)).cell? (W.add j)=some u):=by
      intro W e
      cases e
      exact Jo (Jb O _)
     go_wp2_with (first|(at_builtin;refine zu _ rfl _ _ 39 rfl _ 203 j0 _ 5 48 underlying39 ji d5 d6 d7 rfl dC _ i _ (by rfl) (n.alloc _) _ 1 1 [_,_,_,_,_] rfl (λh=>(by cases h)) rfl (by exact U) (by intro u hu;simp at hu;rcases hu with rfl|rfl|rfl|rfl|rfl <;> rfl) (by unfold maxLen;omega) oM (by first|exact r|simpa using r) ?_;intro v' w3 a0 Z))
     go_roundw
     case rel =>
      refine⟨i+1,by omega,by go_num,?_,(zd s _).grown Z r (λj hj=>(n.lt j hj).1)⟩
      rw[BE,b0.out];rw[a3.out];rw[N.out];exact a0
     case measure=>simp[intOf];omega
  ·obtain rfl:i=m:=by omega
   go_wp2;go_ret;refine⟨⟨_,rfl,?_⟩,h7⟩;rw[e0.1,DO (S':=R) (λj hj=>by rw[HR.out];exact j3.out j hj)]
   exact zo a1 Q.size
end
structure Cp (w u:World)(a b c:Value)(os:Array Value):Prop where
 bo:u.heap[w.heap.size]?=some (.cells #[a,b,c] 38 (0,0))
 bp:u.heap[w.heap.size+1]?=some (.cells os 47 (0,0))
 br:u.heap[w.heap.size+1+1]?=some (.cells #[True,True,True] 38 (0,0))
 ba:u.heap[w.heap.size+1+1+1]?=some (.cells #[(),(),(),True] 41 (0,0))
theorem Cp.j0 {w u e:World}{b c d:Value}{os:Array Value}(h:Cp w u b c d os)(a:Below u u e):Cp w e b c d os:=⟨za h.bo a,za h.bp a,za h.br a,za h.ba a⟩
theorem Cp.start (w:World)(a b c:Value)(os:Array Value):Cp w ((((w.alloc (.cells #[a,b,c] 38)).alloc (.cells os 47)).alloc (.cells #[True,True,True] 38)).alloc (.cells #[(),(),(),True] 41)) a b c os:=by
 obtain⟨h1,h2,h3,d,_⟩:=Dn w (.cells #[a,b,c] 38) (.cells os 47) (.cells #[True,True,True] 38) (.cells #[(),(),(),True] 41);exact⟨h1,h2,h3,d⟩
def zW (u:World)(g:Nat)(v0 v1 v2:Value):World:=((u.setCell (g,0) v0).setCell (g,1) v1).setCell (g,2) v2
def Zg (u:World)(g:Nat)(v0 v1 v2 v3:Value):World:=(((u.setCell (g,0) v0).setCell (g,1) v1).setCell (g,2) v2).setCell (g,3) v3
theorem QZ (u:World)(g:Nat)(v0 v1 v2:Value):zl u (zW u g v0 v1 v2) (λb=>b=g):=(((zl.refl u (λb=>b=g)).set (a:=⟨g,0,none⟩) rfl v0).set (a:=⟨g,1,none⟩) rfl v1).set (a:=⟨g,2,none⟩) rfl v2
theorem Q0 (u:World)(g:Nat)(v0 v1 v2 v3:Value):zl u (Zg u g v0 v1 v2 v3) (λb=>b=g):=AR u g v0 v1 v2 v3
theorem Cp.fin {w u:World}{i j k:Value}{os:Array Value}(h:Cp w u i j k os)(a c d v0 v1 v2 v3:Value) :
  (Zg (zW u (w.heap.size+1+1) a c d) (w.heap.size+1+1+1) v0 v1 v2 v3).heap[w.heap.size+1+1]?=some (.cells #[a,c,d] 38 (0,0))/\(Zg (zW u (w.heap.size+1+1) a c d) (w.heap.size+1+1+1) v0 v1 v2 v3).heap[w.heap.size+1+1+1]?=some (.cells #[v0,v1,v2,v3] 41 (0,0)) /\
   (zW u (w.heap.size+1+1) a c d).heap[w.heap.size]?=some (.cells #[i,j,k] 38 (0,0))/\(zW u (w.heap.size+1+1) a c d).heap[w.heap.size+1]?=some (.cells os 47 (0,0))/\(zW u (w.heap.size+1+1) a c d).heap[w.heap.size+1+1+1]?=some (.cells #[(),(),(),True] 41 (0,0)) /\
   (Zg (zW u (w.heap.size+1+1) a c d) (w.heap.size+1+1+1) v0 v1 v2 v3).heap[w.heap.size]?=some (.cells #[i,j,k] 38 (0,0))/\(Zg (zW u (w.heap.size+1+1) a c d) (w.heap.size+1+1+1) v0 v1 v2 v3).heap[w.heap.size+1]?=some (.cells os 47 (0,0))/\zl u (Zg (zW u (w.heap.size+1+1) a c d) (w.heap.size+1+1+1) v0 v1 v2 v3) (λb=>b=w.heap.size+1+1∨b=w.heap.size+1+1+1):=by
 have f:=QZ u (w.heap.size+1+1) a c d;have g:=Q0 (zW u (w.heap.size+1+1) a c d) (w.heap.size+1+1+1) v0 v1 v2 v3;have l:=f.blk h.ba (show ¬ w.heap.size+1+1+1=w.heap.size+1+1 by omega)
 have m:=f.blk h.bo (show ¬ w.heap.size=w.heap.size+1+1 by omega)
 have c1:=f.blk h.bp (show ¬ w.heap.size+1=w.heap.size+1+1 by omega)
 exact⟨g.blk (BN h.br a c d) (show ¬ w.heap.size+1+1=w.heap.size+1+1+1 by omega),Cy l v0 v1 v2 v3,m,c1,l,g.blk m (show ¬ w.heap.size=w.heap.size+1+1+1 by omega),g.blk c1 (show ¬ w.heap.size+1=w.heap.size+1+1+1 by omega),(f.mono (λb e=>.inl e)).trans (g.mono (λb e=>.inr e))⟩
theorem Cp.low {w u:World}(f:Below w w u)(c d e v0 v1 v2 v3:Value):Below w w (Zg (zW u (w.heap.size+1+1) c d e) (w.heap.size+1+1+1) v0 v1 v2 v3):=by
 have b:w.heap.size<=w.heap.size+1+1:=oM;have a:w.heap.size<=w.heap.size+1+1+1:=oM;exact((((((f.setCell b c).setCell b d).setCell b e).setCell a v0).setCell a v1).setCell a v2).setCell a v3
theorem ik (x:zY)(j k l:Option Addr)(c1 c2 c3:Nat)(s:Int)(y:qD)(f:Option Addr)(g:Nat)(w:World)(F:y.d=1)(H:Zn w)(I:Zp w)(G:QO ⟨y.v,y.f,y.j,y.w,y.h,y.x⟩ y.c) :
  Calls prog 111 #[.agg #[(j,x.i,c1),(k,x.l,c2),(l,x.g,c3)],s,.agg (y,f,g)] w λe w'=>e=.returned (.tuple #[.agg #[(j,x.i,c1),(k,x.l,c2),(l,x.g,c3)],.agg #[(),(),(zP ⟨y.v,y.f,y.j,y.w,y.h,y.x⟩ y.c),True]])/\Below w w w':=by
 have o:=λV h1 h2=>Dv y f g V h1 h2 G
 rw[F] at o ⊢;have r:=hI o;have a:=hI (Cp.start w (j,x.i,c1) (k,x.l,c2) (l,x.g,c3) #[int i64 1,y.j1,y.k,(f,y.c,g),y.v,y.f,y.j,y.w,y.h,y.x,y.y,y.D]);have m:Below _ w ((((w.alloc (.cells #[(j,x.i,c1),(k,x.l,c2),(l,x.g,c3)] 38)).alloc (.cells #[int i64 1,y.j1,y.k,(f,y.c,g),y.v,y.f,y.j,y.w,y.h,y.x,y.y,y.D] 47)).alloc (.cells #[True,True,True] 38)).alloc (.cells #[(),(),(),True] 41)):=zd (zd (zd (zd bZ _) _) _) _;clear F o G;go_enter func111,ntmps111;go_upto_region 1 with fail;generalize (((w.alloc _).alloc _).alloc _).alloc _=U at a m ⊢;have J:=bC a.bp 0;go_upto_region 3 with fail;clear J;replace a:=hI (a.j0 (Ji _ U).drew);have d:=m.drew;clear m;refine qt 6 6 (λu=>u.cell? _=some (.slice j _ c1)/\u.cell? _=some (.slice k _ c2)/\u.cell? _=some (.slice l _ c3)/\u.cell? _=some (.int _ 1)/\u.cell? _=some (.string _)/\u.cell? _=some (.int _ _)/\u.cell? _=some (.slice f _ g)/\u.cell? _=some (.int _ _)/\u.cell? _=some (.int _ _)/\u.cell? _=some (.int _ _)/\u.cell? _=some (.int _ _)/\u.cell? _=some (.bool _)/\u.cell? _=some (.int _ _)/\u.cell? _=some (.int _ _)/\u.cell? _=some (.int _ _)) rfl kR (⟨bC a.bo 0,bC a.bo 1,bC a.bo 2,bC a.bp 0,bC a.bp 1,bC a.bp 2,bC a.bp 3,bC a.bp 4,bC a.bp 5,bC a.bp 6,bC a.bp 7,bC a.bp 8,bC a.bp 9,bC a.bp 10,bC a.bp 11⟩) (λq=>?_)
 simp only[List.replicate_succ,List.replicate_zero];generalize U.drew=u0 at a d q ⊢
 iterate 2 refine QD 0 ?_
 refine Ay 2 λK i=>?_
 go_simp;go_at_call 202;refine Jm (r _ (H.j0 d) (I.j0 d)) ?_;rintro e u1 ⟨rfl,n⟩;dsimp only;replace a:=hI (a.j0 n);replace d:=zb d n;refine i _ _ (⟨bC a.bo 0,bC a.bo 1,bC a.bo 2,bC a.bp 0,bC a.bp 1,bC a.bp 2,bC a.bp 3,bC a.bp 4,bC a.bp 5,bC a.bp 6,bC a.bp 7,bC a.bp 8,bC a.bp 9,bC a.bp 10,bC a.bp 11⟩) (λq=>?_)
 clear i K n;refine QD 3 ?_;have h:=hI (a.fin (j,x.i,c1) (k,x.l,c2) (l,x.g,c3) () () (zP ⟨y.v,y.f,y.j,y.w,y.h,y.x⟩ y.c) True);obtain⟨A,B,C⟩:=ZE a.br;obtain⟨t,v,z⟩:=FM a.br;refine Ay 4 λK i=>?_
 go_simp;have b:=h.2.2;unfold zW at b;refine i _ _ (⟨bC b.1 0,bC b.1 1,bC b.1 2,bC b.2.1 0,bC b.2.1 1,bC b.2.1 2,bC b.2.1 3,bC b.2.1 4,bC b.2.1 5,bC b.2.1 6,bC b.2.1 7,bC b.2.1 8,bC b.2.1 9,bC b.2.1 10,bC b.2.1 11⟩) (λq=>?_)
 clear i K A t B v C z;obtain⟨A,B,C,L⟩:=Qk b.2.2.1;obtain⟨t,v,z,f3⟩:=EV b.2.2.1;refine Ay 5 λK i=>?_
 go_simp;have c:=h.2.2.2.2.2;unfold Zg zW at c;refine i _ _ (⟨bC c.1 0,bC c.1 1,bC c.1 2,bC c.2.1 0,bC c.2.1 1,bC c.2.1 2,bC c.2.1 3,bC c.2.1 4,bC c.2.1 5,bC c.2.1 6,bC c.2.1 7,bC c.2.1 8,bC c.2.1 9,bC c.2.1 10,bC c.2.1 11⟩) (λq=>?_)
 clear i K A t B v C z L f3 b c;refine qh kR ?_ _;go_wp2;have D:=h.1;have E:=h.2.1;unfold Zg zW at D E;obtain⟨Q,R,S⟩:=ZE D;obtain⟨M,N,O,P⟩:=Qk E;have p:=Cp.low d (j,x.i,c1) (k,x.l,c2) (l,x.g,c3) () () (zP ⟨y.v,y.f,y.j,y.w,y.h,y.x⟩ y.c) True;unfold Zg zW at p;exact Jj (by simp[results,results111,go_sem,Q,R,S,M,N,O,P]) rfl ⟨rfl,p⟩
theorem il (x:zY)(i l m:Option Addr)(c1 c2 c3 k:Nat)(T:Int)(y:qD)(D:Option Addr)(n:Nat)(w:World)(G:y.d=9)(hs:zY.Short x 1048576)(M:qy w i x.i x.G)(H:ZA w l x.l x.F)(E:qL w m x.g x.u)(Z:x.g<=30)(J:x.l=x.i)
  (a0:0<y.c) (I:zS w D y.c y.J) (hk:zX x.G (y.J 0) x.i=k) (a4:k<x.i) (L:qf (x.G k) (x.F k)) :
  Calls prog 111 #[.agg #[(i,x.i,c1),(l,x.l,c2),(m,x.g,c3)],T,.agg (y,D,n)] w λe w'=>(∃ v,e=.returned (.tuple #[.agg #[(i,x.i,c1),(l,x.l,c2),(m,x.g,c3)],.agg #[(),(),(),v]])/\w'.ownsRow w 203 5 v (ZU (x.F k) x.u (x.G k).S x.g).length (Zh (BS (ZU (x.F k) x.u (x.G k).S x.g)) (ZU (x.F k) x.u (x.G k).S x.g).length))/\Below w w w':=by
 rw[G];obtain⟨lb,lo,rfl,F⟩:=I 0 a0;have S:=hI hs;have C:=hI M;have Q:=hI H;have P:=hI E;have HM:=hI J;have HK:=hI hk;have R:=hI L;have s:Hid (w.cell? ⟨lb,lo,_⟩=_):=F;have n8:=hs.1.1;have b:=hI (Cp.start w (i,x.i,c1) (l,x.l,c2) (m,x.g,c3) #[int i64 9,y.j1,y.k,(some (lb,lo),y.c,n),y.v,y.f,y.j,y.w,y.h,y.x,y.y,y.D]);have r:Below _ w ((((w.alloc (.cells #[(i,x.i,c1),(l,x.l,c2),(m,x.g,c3)] 38)).alloc (.cells #[int i64 9,y.j1,y.k,(some (lb,lo),y.c,n),y.v,y.f,y.j,y.w,y.h,y.x,y.y,y.D] 47)).alloc (.cells #[True,True,True] 38)).alloc (.cells #[(),(),(),True] 41)):=zd (zd (zd (zd bZ _) _) _) _;clear G hs M H E J I hk L F;go_enter func111,ntmps111;go_upto_region 1 with fail;generalize (((w.alloc _).alloc _).alloc _).alloc _=U at b r ⊢;have o0:=bC b.bp 0;go_upto_region 10 with fail;clear o0;replace b:=hI (b.j0 (Ji _ U).drew);have a:=r.drew;clear r;have i0:(0:Int)<(y.c:Int):=oM;have t:Hid (∀ z,Below _ w z->_):=λz hz=>(hz.cell (Ja w _ s)).trans s
 refine qt 12 12 (λu=>u.cell? _=some (.slice i _ c1)/\u.cell? _=some (.slice _ _ n)/\u.cell? _=_) rfl kR ⟨bC b.bo 0,bC b.bp 3,t _ a⟩ (λp=>?_)
 simp only[List.replicate_succ,List.replicate_zero];generalize U.drew=u0 at b a p ⊢
 iterate 6 refine QD 0 ?_
 refine Ay 6 λK j=>?_
 go_simp;go_at_call 198;refine Jm (AY i _ c1 _ _ u0 n8 (C.j0 a)) ?_;rintro e u1 ⟨o,d⟩;replace o:e=.returned (.tuple #[(k:Int),.bool true]):=by
  rw[HK.out] at o
  rcases o with⟨_,q⟩|⟨q,_⟩
  ·exact q
  ·omega
 subst o;dsimp only;replace b:=hI (b.j0 d);replace a:=zb a d;refine j _ _ ⟨bC b.bo 0,bC b.bp 3,t _ a⟩ (λp=>?_)
 clear j K d
 iterate 5 refine QD 7 ?_
 refine qh kR ?_ _;go_upto_region 11 with fail;replace b:=hI (b.j0 (Ji _ u1).drew);replace a:=a.drew;refine qt 7 7 (λu=>u.cell? _=some (.slice i _ c1)/\u.cell? _=some (.slice l _ c2)/\u.cell? _=some (.slice m _ c3)) rfl kR ⟨bC b.bo 0,bC b.bo 1,bC b.bo 2⟩ (λp=>?_)
 simp only[List.replicate_succ,List.replicate_zero];generalize u1.drew=u2 at b a p ⊢
 iterate 3 refine QD 0 ?_
 refine Ay 3 λK j=>?_
 go_simp;go_at_call 204;refine Jm (SL x i l m c1 c2 c3 k u2 S (C.j0 a) (Q.j0 a) (P.j0 a) Z a4 HM R) ?_;rintro e u3 ⟨⟨v,rfl,ho⟩,d⟩;obtain⟨va,vc,rfl,_⟩:=zn ho;dsimp only;have O:Hid _:=zo ho a.size;replace b:=hI (b.j0 d);replace a:=zb a d;refine j _ _ ⟨bC b.bo 0,bC b.bo 1,bC b.bo 2⟩ (λp=>?_)
 clear j K d ho;obtain⟨N,Y⟩:=nM ((ZU (x.F k) x.u (x.G k).S x.g).length);have HN:=hI Y;rw[← Y] at O ⊢;clear Y;refine QD 4 ?_;have f:=hI (b.fin (i,x.i,c1) (l,x.l,c2) (m,x.g,c3) () () () (va,N,vc));obtain⟨r0,r1,r2⟩:=ZE b.br;obtain⟨V,W,X⟩:=FM b.br;refine Ay 5 λK j=>?_
 go_simp;have c:=f.2.2;unfold zW at c;refine j _ _ (⟨bC c.1 0,bC c.1 1,bC c.1 2⟩) (λp=>?_)
 clear j K r0 V r1 W r2 X;obtain⟨r0,r1,r2,r3⟩:=Qk c.2.2.1;obtain⟨V,W,X,f3⟩:=EV c.2.2.1;refine Ay 6 λK j=>?_
 go_simp;have h:=f.2.2.2.2.2;unfold Zg zW at h;refine j _ _ (⟨bC h.1 0,bC h.1 1,bC h.1 2⟩) (λp=>?_)
 clear j K r0 V r1 W r2 X r3 f3 c h;refine qh kR ?_ _;go_wp2;have Z3:=f.1;have Z4:=f.2.1;unfold Zg zW at Z3 Z4;obtain⟨z0,z1,z2⟩:=ZE Z3;obtain⟨t0,t1,t2,t3⟩:=Qk Z4;have A:=Cp.low a (i,x.i,c1) (l,x.l,c2) (m,x.g,c3) () () () (va,N,vc);have B:=f.2.2.2.2.2.2.2.j1 O (λg h1 h2=>h2.elim (λe=>zQ O b.br dC g h1 e) (λe=>zQ O b.ba dC g h1 e))
 unfold Zg zW at A B;exact Jj (v:=.tuple #[_,.agg #[_,_,_,(va,N,vc)]]) (by simp[results,results111,go_sem,z0,z1,z2,t0,t1,t2,t3]) rfl ⟨⟨_,rfl,by rw[← HN.out];exact B⟩,A⟩
theorem Cp.row {i:World}{e f g:Value}{os:Array Value}{T:Nat->Prop}(h:Cp w u e f g os)(a:zl u i T)(j:∀ b,T b->∃ cs,u.heap[b]?=some (.cells cs 150 (0,0))):Cp w i e f g os:=by
 have c:∀ b t cs,u.heap[b]?=some (.cells cs t (0,0))->150≠t->¬ T b:=λb t cs h1 h2 h3=>by
  obtain⟨cs',d⟩:=j b h3;rw[h1] at d;simp only[Option.some.injEq,Obj.cells.injEq] at d;exact h2 d.2.1.symm
 exact⟨a.blk h.bo (c _ _ _ h.bo dC),a.blk h.bp (c _ _ _ h.bp dC),a.blk h.br (c _ _ _ h.br dC),a.blk h.ba (c _ _ _ h.ba dC)⟩
theorem Cp.putO {a b c:Value}{os:Array Value}(h:Cp w u a b c os)(q:Value):Cp w (u.setCell (w.heap.size,2) q) a b q os :=
 ⟨(Lc h.bo q).2.2,zG h.bp 2 q oM,zG h.br 2 q oM,zG h.ba 2 q oM⟩
theorem io {c:World}{S T:Nat->Prop}(h:zl w u S)(k:zl u c T)(d:∀ b,T b->w.heap.size<=b):zl w c S :=
 ⟨k.os.trans h.os,k.tape.trans h.tape,k.output.trans h.output,Jp h.size k.size,λi a e=>(k.block i (Nat.lt_of_lt_of_le a h.size) (λt=>by have:=d i t;omega)).trans (h.block i a e)⟩
theorem kt {S:Nat->Prop}(f:zl w u S)(a c d v0 v1 v2 v3:Value):zl w (Zg (zW u (w.heap.size+1+1) a c d) (w.heap.size+1+1+1) v0 v1 v2 v3) S :=
 io (io f (QZ u (w.heap.size+1+1) a c d) (λb e=>by have e:=e;omega)) (Q0 (zW u (w.heap.size+1+1) a c d) (w.heap.size+1+1+1) v0 v1 v2 v3) (λb e=>by have e:=e;omega)
theorem SN (x:zY)(t v a3:Option Addr)(c1 c2 c3 base:Nat)(L C A B D E:Nat->Value)(c st:Int)(y:qD)(z:Option Addr)(M:Nat)(w:World)(hk:(y.d=2/\st=1)∨(y.d=3/\st=2))(hB:Zn w)(hF:Zp w)(hp:QO ⟨y.v,y.f,y.j,y.w,y.h,y.x⟩ y.c)(hl:zS w z y.c y.J)(hu:y.d=3->y.y=0)(d9:x.g<30)(b5:base<=w.heap.size)(R:zz w base (t,x.i,c1) (v,x.l,c2) (a3,x.g,c3) x.i x.l x.g x L C A B D E) :
  Calls prog 111 #[.agg #[.slice t x.i c1,.slice v x.l c2,.slice a3 x.g c3],int i64 c,.agg #[int i64 y.d,.string y.j1,int i64 y.k,.slice z y.c M,int i64 y.v,int i64 y.f,int i64 y.j,int i64 y.w,.bool y.h,int i64 y.x,int i64 y.y,int i64 y.D]] w λe w'=>(∃ b3 d3 E2,e=.returned (.tuple #[.agg #[.slice t x.i c1,.slice v x.l c2,.slice b3 (x.g+1) d3],.agg #[int i64 0,int i64 ((x.g:Int)+1),int i64 (zP ⟨y.v,y.f,y.j,y.w,y.h,y.x⟩ y.c),.slice none 0 0]])/\zz w' base (.slice t x.i c1) (.slice v x.l c2) (.slice b3 (x.g+1) d3) x.i x.l (x.g+1) { x with g:=x.g+1,u:=Qq x.u x.g (Aw x.g c y) } L C A B D E2)/\zl w w' (λb=>(Value.slice a3 x.g c3).ownBlock=some b):=by
 obtain⟨r0,ri,d5,d6,d7⟩:=info_parts Tryz.infoBookingO;have H:=hI R;have b9:Hid ((y.d=2->st=1)/\(y.d≠2->st=2)):=by rcases hk with⟨h1,h2⟩|⟨h1,h2⟩ <;> exact⟨λh=>by omega,λh=>by omega⟩
 have a8:Hid (Aw x.g c y=⟨(x.g:Int)+1,c,y.j1,y.c,y.J,y.v,y.f,y.j,y.w,y.h,y.x,st,y.y,(zP ⟨y.v,y.f,y.j,y.w,y.h,y.x⟩ y.c)⟩):=by
  show _=_
  unfold Aw
  rcases hk with⟨h1,h2⟩|⟨h1,h2⟩
  ·rw[Jf h1,Jf h1,h2]
  ·rw[Je oM,Je oM,h2,hu h1]
 have HP:=hI hp;have HI:=hI hl;have e0:IntKind.i64.wrap ((x.g:Int)+1)=(x.g:Int)+1:=by rw[Jk];omega
 have r:=hI (Cp.start w (t,x.i,c1) (v,x.l,c2) (a3,x.g,c3) (y,z,M));have g:Below _ w ((((w.alloc (.cells #[(t,x.i,c1),(v,x.l,c2),(a3,x.g,c3)] 38)).alloc (.cells (y,z,M) 47)).alloc (.cells #[True,True,True] 38)).alloc (.cells #[(),(),(),True] 41)):=zd (zd (zd (zd bZ _) _) _) _;have d1:(y.d == 1)=false:=by have:y.d≠1:=(by omega);simpa using this
 have b7:y.d=2∨y.d=3:=oM;have a5:=hI b7;clear hk R hp hl hu b7;go_enter func111,ntmps111;go_upto_region 1 with fail;generalize (((w.alloc _).alloc _).alloc _).alloc _=U at r g ⊢;have o0:=bC r.bp 0;have o2:=bC r.bo 2;obtain⟨p0,p1,p2,p3,p4,p5,p6,p7,p8,p9,d0,d4⟩:=DQ r.bp;have e1:=a5
 rcases a5 with k2|k3
 all_goals
  first|(have d2:(y.d == 2)=true:=by simpa using k2)|(have d2:(y.d == 2)=false:=by simpa using(show y.d≠2 by omega))
  first|(have d3:(y.d == 3)=true:=by simpa using k3)|skip
  first|clear k2|clear k3
  go_wp2_with fail;refine(KR _ c y z M U (hB.j0 g) (hF.j0 g) HP (HI.j0 g) st b9).mono ?_;rintro e Y0 ⟨⟨la,T,rfl,ho⟩,O⟩;clear o0 o2 p0 p1 p2 p3 p4 p5 p6 p7 p8 p9 d0 d4;have a4:=zb g O;have o:Below _ Y0 (Y0.alloc (.cells #[int i64 ((x.g:Int)+1),c,y.j1,(la,y.c,T),y.v,y.f,y.j,y.w,y.h,y.x,st,y.y,(zP ⟨y.v,y.f,y.j,y.w,y.h,y.x⟩ y.c)] 150)):=zd bZ _;have l:Below _ _ ((Y0.alloc (.cells #[int i64 ((x.g:Int)+1),c,y.j1,(la,y.c,T),y.v,y.f,y.j,y.w,y.h,y.x,st,y.y,(zP ⟨y.v,y.f,y.j,y.w,y.h,y.x⟩ y.c)] 150)).alloc (.cells #[int i64 ((x.g:Int)+1),c,y.j1,(la,y.c,T),y.v,y.f,y.j,y.w,y.h,y.x,st,y.y,(zP ⟨y.v,y.f,y.j,y.w,y.h,y.x⟩ y.c)] 150)):=zd bZ _;have P:=hI (λi hi b e=>by have h1:=(((H.j0 g).u.j4 i hi).lt b e).2;exact h1)
  have I:=hI ((r.j0 O).j0 o);have bN:=Qc o;have m:=hI (((H.j0 a4).j0 o).j0 l);have V:=hI (zm l (zm o ho));have N:=zb (zb a4 o) l;have c0:=g.size;have c9:=zD (r.j0 O).ba;go_upto_region 7 with fail;generalize hY1:Y0.alloc _=Y1 at I bN m V l N ⊢;generalize Y0.heap.size=nb at bN c9 ⊢;have a9:Hid (∀ j u,([_,_,_,_,_,_,_,_,_,_,_,_,_]:List Value)[j]?=_->(Y1.alloc (.cells #[int i64 ((x.g:Int)+1),c,y.j1,(la,y.c,T),y.v,y.f,y.j,y.w,y.h,y.x,st,y.y,(zP ⟨y.v,y.f,y.j,y.w,y.h,y.x⟩ y.c)] 150)).cell? _=_):=Jo (Jb Y1 _);have J:=hI (I.j0 l);have b2:=za bN l;have q2:=bC I.bo 2;have S:=Jp b5 N.size;clear hY1 o O ho a4;refine wp_region_lit ?_;refine Go.Great.wpList_runTo rfl _ rfl _ _ (show _ from rfl) ?_;refine Go.Great.wpList_readTo rfl _ rfl (a3,x.g,c3) (by simp[execOp,q2,go_sem]) ?_
  refine wpList_load_row rfl _ _ rfl nb rfl _ _ _ _ bN underlying150 rfl Tryz.sizeBookingO ?_;refine Go.Great.wpList_buildSliceTo rfl _ _ 1 _ rfl _ rfl _ rfl underlying36 _ (Eq.trans (congrArg _ (show _ from by first|(simp[go_sem];done)|rfl|kernel_rfl)) (Hr ((x.g:Int)+1) c y.v y.f y.j y.w y.x st y.y (zP ⟨y.v,y.f,y.j,y.w,y.h,y.x⟩ y.c) y.j1 y.h la y.c T)) ?_
  clear q2;go_wp2_with (first|(at_builtin;refine wpList_append_lies _ (by rfl) (.tmp 33) (.tmp 35) 36 (by rfl) base 150 r0 (.agg #[int i64 0,int i64 0,.string ⟨#[]⟩,.slice none 0 0,int i64 0,int i64 0,int i64 0,int i64 0,.bool false,int i64 0,int i64 0,int i64 0,int i64 0]) 13 128 underlying36 ri d5 d6 d7 rfl dC _ x.g (AQ x.u E x.g) (by rfl) m.u.row ⟨Y1.heap.size,0,none⟩ 1 1 [int i64 ((x.g:Int)+1),int i64 c,.string y.j1,.slice la y.c T,int i64 y.v,int i64 y.f,int i64 y.j,int i64 y.w,.bool y.h,int i64 y.x,int i64 st,int i64 y.y,int i64 (zP ⟨y.v,y.f,y.j,y.w,y.h,y.x⟩ y.c)] (by rfl) (by rfl) a9.out (by intro u hu;simp at hu;rcases hu with rfl|rfl|rfl|rfl|rfl|rfl|rfl|rfl|rfl|rfl|rfl|rfl|rfl <;> rfl) dC (by unfold maxLen;omega) oM S _ rfl ?_;intro Q d w3 b8 n _ _;have a0:=(qY n).blk J.bo (λe=>by obtain⟨cs,e2⟩:=zC m.u.row _ e;rw[J.bo] at e2;simp at e2);have z2:=bC a0 2;have d8:=zc a0 2))
  have X:=hI (J.row (qY n) (λb e=>zC m.u.row b e))
  have b4:=(qY n).blk b2 (λe=>by have:=(H.u.row.lt nb e).2;omega)
  have b6:AM (Qq x.u x.g (Aw x.g c y)) (AP E x.g (.slice la y.c T)) x.g=[int i64 ((x.g:Int)+1),int i64 c,.string y.j1,.slice la y.c T,int i64 y.v,int i64 y.f,int i64 y.j,int i64 y.w,.bool y.h,int i64 y.x,int i64 st,int i64 y.y,int i64 (zP ⟨y.v,y.f,y.j,y.w,y.h,y.x⟩ y.c)]:=by unfold AM;rw[ZS,qg,a8.out]
  have b0:=hI (m.addBk (nb:=Aw _ c y) P (by rw[a8.out];exact V) (Jp b5 c0) n (by rw[b6];exact b8))
  have q:=hI (b0.box ((zl.refl w3 (λb=>b=w.heap.size)).set (a:=(w.heap.size,2)) rfl (some (Q,0),x.g+1,d)) X.bo dC)
  have f:=hI (X.putO (some (Q,0),x.g+1,d));have Y:=zG (b':=w.heap.size) b4 2 (some (Q,0),x.g+1,d) oM;have F:zl w (w3.setCell _ (some (Q,0),x.g+1,d)) _:=io ((zl.of_below N).trans (qY n)) ((zl.refl w3 (λb=>b=w.heap.size)).set (a:=(w.heap.size,2)) rfl _) (λb e=>by have e:=e;omega)
  clear z2 d8 a0 m V a9 J b2 N S I bN l X b4 b6 b0 b8 n H P HI HP r g;generalize w3.setCell _ _=Z at q f Y F ⊢;replace f:=hI (f.j0 (Ji _ Z).drew);replace q:=hI (q.j0 (Ji _ Z).drew);have G:=hI (zK Y);replace F:=F.trans (zl.of_below (Ji _ Z).drew);clear Y;refine qt 8 8 (λu=>u.cell? _=some (.slice t _ c1)/\u.cell? _=some (.slice v _ c2)/\u.cell? _=some (.slice _ _ d)/\u.cell? _=some (.int _ _)/\u.cell? _=some (.int _ _)) rfl kR (⟨bC f.bo 0,bC f.bo 1,bC f.bo 2,bC G 0,bC G 12⟩) (λhS=>?_)
  simp only[List.replicate_succ,List.replicate_zero];generalize Z.drew=u8 at q f G F hS ⊢;have r:=f;have W:Hid _:=(QZ u8 (w.heap.size+1+1) (t,x.i,c1) (v,x.l,c2) (some (Q,0),x.g+1,d)).blk G (show ¬ nb=w.heap.size+1+1 by omega)
  have a7:Hid _:=(Q0 (zW u8 (w.heap.size+1+1) (.slice t x.i c1) (.slice v x.l c2) (.slice (some ⟨Q,0,none⟩) (x.g+1) d)) (w.heap.size+1+1+1) (int i64 0) (int i64 ((x.g:Int)+1)) (int i64 (zP ⟨y.v,y.f,y.j,y.w,y.h,y.x⟩ y.c)) (.slice none 0 0)).blk W.out (show ¬ nb=w.heap.size+1+1+1 by omega)
  iterate 6 refine QD 0 ?_
  have p:=hI (r.fin (t,x.i,c1) (v,x.l,c2) (some (Q,0),x.g+1,d) () (int i64 ((x.g:Int)+1)) (zP ⟨y.v,y.f,y.j,y.w,y.h,y.x⟩ y.c) True);obtain⟨r0,r1,r2⟩:=ZE r.br;obtain⟨f0,f1,f2⟩:=FM r.br;refine Ay 6 λK hK=>?_
  go_simp;have k:=p.2.2;unfold zW at k;refine hK _ _ (⟨bC k.1 0,bC k.1 1,bC k.1 2,bC W 0,bC W 12⟩) (λhS=>?_)
  clear hK K r0 f0 r1 f1 r2 f2;simp only[sZ,sS];obtain⟨r0,r1,r2,r3⟩:=Qk k.2.2.1;obtain⟨f0,f1,f2,f3⟩:=EV k.2.2.1;refine Ay 7 λK hK=>?_
  go_simp;have s:=p.2.2.2.2.2;unfold Zg zW at s;refine hK _ _ (⟨bC s.1 0,bC s.1 1,bC s.1 2,bC a7 0,bC a7 12⟩) (λhS=>?_)
  clear hK K r0 f0 r1 f1 r2 f2 r3 f3 k s;simp only[sZ,sS];refine qh kR ?_ _;go_wp2;have Z3:=p.1;have Z4:=p.2.1;unfold Zg zW at Z3 Z4;obtain⟨z0,z1,z2⟩:=ZE Z3;obtain⟨t0,t1,t2,t3⟩:=Qk Z4;have a6:=kt F (t,x.i,c1) (v,x.l,c2) (some (Q,0),x.g+1,d) () (int i64 ((x.g:Int)+1)) (zP ⟨y.v,y.f,y.j,y.w,y.h,y.x⟩ y.c) True;have b1:=(q.box (QZ u8 _ _ _ _) f.br dC).box (Q0 _ _ () (int i64 ((x.g:Int)+1)) (zP ⟨y.v,y.f,y.j,y.w,y.h,y.x⟩ y.c) True) p.2.2.2.2.1 dC;unfold Zg zW at a6 b1;exact Jj (by simp[results,results111,go_sem,z0,z1,z2,t0,t1,t2,t3]) rfl ⟨⟨_,d,_,rfl,b1⟩,a6⟩
/-- The operation is not good. -/
theorem Ke (x:qD)(g:Option Addr)(i:Nat)(a:Option Addr)(n c:Nat)(w:World)(o:qD.Is w [x.d,x.j1,x.k,(g,x.c,i),x.v,x.f,x.j,x.w,x.h,x.x,x.y,x.D] x)(s:x.j1.size<=1000000000000000)(l:Ze w)(pe:Nat->Addr)(m:qI w pe)(f:¬ QE x) :
  Calls prog 106 #[(a,n,c),.agg (x,g,i)] w λe w'=>e=.panicked [{ v:=.iface 96 (.agg #[.iface 391 (.pointer (some (pe 1)))]),recovered:=false }]/\Below w w w':=by
 have b:Below _ w (w.alloc (.cells (x,g,i) 47)):=zd bZ _;have r:Hid (∀ w',_->qD.Is w' _ x):=λ_ h=>o.j0 h
 have p:Hid (∀ w',_->Ze w'):=λ_ h=>l.j0 h
 have k:=(qI.j0 m b).c1;have q:=hI (Jc f);clear o l m f;go_enter func106,ntmps106;go_upto_region 1 with fail;have j:1<_:=Ja _ _ k;go_region_with (first|(go_at_call 194;refine(EC _ x _ s (r _ b.drew) (p _ b.drew)).mono ?_;rw[q.out];rintro e w2 ⟨rfl,d⟩;have g5:=(d.cell j).trans k)|(go_at_call 193;refine(AK _ _ _).mono ?_;rintro e w3 ⟨rfl,rfl⟩;refine Hs (P:=prog) (a:=⟨#[],[]⟩) (w:=w) ?_))
 all_goals exact⟨rfl,rfl,zb b.drew d⟩
/-- The operation is good, and is of a kind ZN legs. -/
theorem Hu (x:qD)(l:Option Addr)(m:Nat)(a:Option Addr)(n c:Nat)(k:Nat)(w:World)(B:qD.Is w [x.d,x.j1,x.k,(l,x.c,m),x.v,x.f,x.j,x.w,x.h,x.x,x.y,x.D] x)(L:x.j1.size<=1000000000000000)(u:Ze w)(pe:Nat->Addr)(y:qI w pe)(i:QE x)(z:x.d=(k:Int))(p:k<10)(A:ZL k=0) :
  Calls prog 106 #[(a,n,c),.agg (x,l,m)] w λe w'=>e=.returned (.tuple #[])/\Below w w w':=by
 have d:Below _ w (w.alloc (.cells (x,l,m) 47)):=zd bZ _;have b:=Jb w (.cells (x,l,m) 47);have G:Hid (∀ w',_->qD.Is w' _ x):=λ_ h=>B.j0 h
 have s:Hid (∀ w',_->Ze w'):=λ_ h=>u.j0 h
 have j:=qI.j0 y d;have F:=hI (Jd i);have E:=hI z;clear B u y i z;go_enter func106,ntmps106;go_upto_region 1 with fail;generalize w.alloc _=W at d b j ⊢;have I:=zD b;have f:=s W d;have D:=gC b 0;have M:=gC b 1;have N:=gC b 2;have O:=gC b 3;have P:=gC b 4;have Q:=gC b 5;have R:=gC b 6;have S:=gC b 7;have T:=gC b 8;have U:=gC b 9;have q:=gC b 10;have r:=gC b 11;have H:∀ g:zy W,_:=λg=>(qI.j0 j g.o).c1
 have t:∀ g:zy W,_:=λg=>(qI.j0 j g.o).c2
 have C:∀ g:zy W,_:=λg=>(((f.j0 g.o) k p).2.2.1).trans (by rw[A])
 have J:=n0 k;have K:(k:Int)<10:=oM;clear j f;refine ze kR kR ?_
 repeat(go_big_quiet_step ((rename_i g;first|(go_at_call 194;refine zr (v:=.bool true) ((EC _ x _ L (G _ (zb d g.o)) (s _ (zb d g.o))).mono ?_);rw[F.out];exact λ_ _ h=>h)|(go_at_call 193;refine gE (v:=.tuple #[]) (ZO _ _) rfl))))
 refine Jl ?_;rintro _ ⟨g,rfl⟩;have b1:=za b g.o;have o:=zb d g.o;have u0:∀ h:zy _,h.val.cell? _=some (.int _ (k:Int)):=λh=>by rw[← E.out];exact D ⟨_,zb g.o h.o⟩
 have u2:∀ h:zy _,h.val.cell? _=_:=λh=>C ⟨_,zb g.o h.o⟩
 have v2:∀ h:zy _,h.val.cell? _=_:=λh=>t ⟨_,zb g.o h.o⟩
 clear D M N O P Q R S T U q r C H t A;go_upto_region 2 with fail;refine ze kR kR ?_
 repeat(go_big_quiet_step ((go_at_call 193;refine gE (v:=.tuple #[]) (ZO _ _) rfl)))
 refine Jl ?_;rintro _ ⟨h,rfl⟩;go_end0;exact⟨rfl,zb o h.o⟩
theorem Oz (k:Nat)(w:World)(hk:k<=4194304) :
  Calls prog 252 #[.slice none 0 0,int i64 k] w λe w'=>(∃ v,e=.returned v/\w'.ownsRow w 268 10 v 0 [])/\Below w w w':=by
 have d0:decide ((k:Int)<0)=false:=sM
 by_cases h0:0<k
 ·obtain⟨f,g,b,h,c⟩:=info_parts Tryz.infoWorkI
  have a:=Lib.run_append_nil_zeros w 175 3 175 268 f _ .i64 _ underlying175 underlying3 g b k h0 oM oM (by rw[c];omega)
  have d1:decide (0<k)=true:=by simpa using h0
  go_enter func252,ntmps252;go_wp2_with (first|(at_builtin;refine Lib.wpList_append_run _ rfl _ _ _ _ rfl _ _ rfl rfl _ _ a ?_))
  go_ret;have d:=grownCap_ge w k 0 268;refine⟨⟨_,rfl,rfl,.inr ⟨_,_,_,rfl,Jr _,Jb w _,Jq _,grownCap_le_maxLen w k 0 _ (by unfold maxLen;omega),?_,rfl⟩⟩,(zd (Ji _ w) _).drew⟩
  rw[Array.size_append,size_zeroCells,size_zeroCells]
  show k*10+_*10=_
  omega
 ·obtain rfl:k=0:=by omega
  go_enter func252,ntmps252;go_wp2;go_ret;exact⟨⟨_,rfl,rfl,.inl ⟨rfl,rfl⟩⟩,bZ⟩
def GP (n j r:Nat):Nat:=if r=0 then 0 else if r=1 then n else n+j
def ku (a b:List Value)(r:Nat):List Value:=if r=0 then [] else if r=1 then a else a++b
theorem SU (Q:Nat)(p q:Option Addr)(n j t C:Nat)(b c:List Value)(w:World)(hn:n<=1048576)(D:j<=1048576)(W:b.length=n*10)(X:c.length=j*10)(Y:∀ u ∈ b,u.oneCell'=true)(Z:∀ u ∈ c,u.oneCell'=true)
  (m:w.heap[Q]?=some (.cells #[.slice p n t,.slice q j C] 175 (0,0))) (M:Cb w p b) (N:Cb w q c) (H:p=none->n=0/\t=0) (I:q=none->j=0/\C=0) :
  Calls prog 201 #[.slice (some ⟨Q,0,none⟩) 2 2] w λe w'=>(∃ v,e=.returned v/\w'.ownsRow w 268 10 v (n+j) (b++c))/\Below w w w':=by
 obtain⟨O,P,z,A,B⟩:=info_parts Tryz.infoWorkI;have U:=hI M;have V:=hI N;have R:w.cell? _=some (.slice p n t):=bC m 0;have S:w.cell? _=some (.slice q j C):=bC m 1;have c0:GP n j 0=0:=rfl;have c1:GP n j 1=n:=rfl;have c2:GP n j 2=n+j:=rfl;have d0:ku b c 0=[]:=rfl;have K:ku b c 1=b:=rfl;have L:ku b c 2=b++c:=rfl;clear M N;go_enter func201,ntmps201;go_wp2;go_loopg [3,5,11] 2 (λg s _ i wr=>∃ r,r<=2/\g=2 - r/\i=int i64 r/\s=int i64 (GP n j r)/\wr=w)
 case atStart=>exact⟨0,by omega,rfl,rfl,rfl,rfl⟩
 case round =>
  obtain⟨r,hr,rfl,rfl,rfl,x⟩:=hrel;have y:=x.symm;subst y;clear x;have k:r=0∨r=1∨r=2:=oM
  rcases k with rfl|rfl|rfl
  ·go_wp2
   go_roundg 1
   case measure=>omega
   case rel=>exact⟨1,by omega,rfl,by go_num,by rw[c1],rfl⟩
  ·have hd:decide ((n:Int)+(j:Int)<0)=false:=by simp;omega
   go_wp2;go_roundg 0
   case measure=>omega
   case rel=>exact⟨2,by omega,rfl,by go_num,by rw[c2];go_num,rfl⟩
  ·go_wp2_with fail
   refine(Oz _ _ oM).mono ?_;rintro e w1 ⟨⟨v,rfl,J⟩,G⟩;clear R S;go_wp2;go_loopg [6,8,27] 2 (λg u _ i wr=>∃ r,r<=2/\g=2 - r/\i=int i64 r/\wr.ownsRow w 268 10 u (GP n j r) (ku b c r)/\Below w w wr)
   case atStart=>exact⟨0,by omega,rfl,rfl,J,G⟩
   case round =>
    obtain⟨r,hr,rfl,rfl,o,a⟩:=hrel;obtain⟨T,F⟩:=nM wr;subst F;have f:=a.size;have h:=za m a;have R:T.cell? _=some (.slice p n t):=bC h 0;have S:T.cell? _=some (.slice q j C):=bC h 1;have k:r=0∨r=1∨r=2:=oM
    rcases k with rfl|rfl|rfl
    ·have E:=hI (U.j0 a)
     go_wp2_with (first|(at_builtin;refine zu _ rfl _ _ 175 rfl _ 268 O _ 10 80 underlying175 P z A B rfl dC _ 0 [] (by rfl) o p n t b rfl H W E.out Y (by unfold maxLen;omega) oM f ?_;intro v' w3 d l))
     go_roundg 1
     case measure=>omega
     case rel=>exact⟨1,by omega,rfl,by go_num,by
      rw[c1,K];rw[Nat.zero_add,List.nil_append] at d;exact d,a.grown l f (λj D=>(o.lt j D).1)⟩
    ·have E:=hI (V.j0 a)
     rw[c1,K] at o;go_wp2_with (first|(at_builtin;refine zu _ rfl _ _ 175 rfl _ 268 O _ 10 80 underlying175 P z A B rfl dC _ n b (by rfl) o q j C c rfl I X E.out Z (by unfold maxLen;omega) oM f ?_;intro v' w3 d l))
     go_roundg 0
     case measure=>omega
     case rel=>exact⟨2,by omega,rfl,by go_num,by
      rw[c2,L];exact d,a.grown l f (λj D=>(o.lt j D).1)⟩
    ·rw[c2,L] at o
     go_wp2;go_ret;exact⟨⟨_,rfl,o⟩,a⟩
end Go.Proofs.YtmdnjgihooflfaaGreatDoor
