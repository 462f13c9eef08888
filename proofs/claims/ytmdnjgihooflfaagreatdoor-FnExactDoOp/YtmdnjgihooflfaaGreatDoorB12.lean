import Derived.Test.YtmdnjgihooflfaaGreatDoorB07
namespace Go.Proofs.YtmdnjgihooflfaaGreatDoor
open Go.RowKit
open Go.Value (int)
open Go.IntKind (i64)
open _root_.Go.Proofs.Tryz
set_option maxHeartbeats 64000000
set_option maxRecDepth 1000000
theorem Lv (g base N R k d5 e3 g3:Nat)(g1 g0 f9:Option Addr)(leg who ρ:Int)(res:Nat)(goes:Bool)(p:ZP)(x:zY)(L C A B D E:Nat->Value)(w:World)(hq:w.heap[g]?=some (.cells #[(g1,N,d5),(g0,N,e3),(f9,R,g3)] 38 (0,0)))(ho:zz w base (g1,N,d5) (g0,N,e3) (f9,R,g3) N N R x L C A B D E)(hN:N<=1048576)(hk:zX x.G leg N=k)(b7:k<N)(j5:qf (x.G k) (x.F k))(hc:(goes=true/\ρ=0/\res=0/\∃ r,r<(x.F k).r/\Zm (x.F k).K r=who/\∀ j,j<(x.F k).r->j≠r->Zm (x.F k).K j≠who)∨(goes=true/\ρ=1/\res=1/\∃ r,r<(x.F k).m/\Zl (x.F k).I r=who/\∀ j,j<(x.F k).m->j≠r->Zl (x.F k).I j≠who)∨(goes=true/\ρ=2/\res=2/\∃ r,r<(x.F k).t/\ZZ (x.F k).L r=who/\∀ j,j<(x.F k).t->j≠r->ZZ (x.F k).L j≠who)∨(goes=false/\ρ=0/\res=0)∨(goes=false/\ρ=2/\res=2/\In p.v 0 20)) :
  Calls prog 92 #[.pointer (some (g,0)),.agg #[leg,int i64 ρ,goes,who,p.v,p.f,p.j,p.w,p.h,p.x]] w λe w'=>IS g base N R k d5 e3 g3 g1 g0 f9 ⟨leg,res,goes,who,p⟩ x L C E w e w':=by
 have HC:=hI hc;clear hc;obtain⟨gl,rfl,k7,d9⟩:=qr ho.F.row oM;have HO:=hI ho;have HK:=hI hk;have P:=hI j5;have c9:Hid (base<=w.heap.size):=by show base<=w.heap.size;omega
 have HQ:=hI hq;have e5:=hI ho.G.at;obtain⟨cs,j3⟩:=zC ho.F.row gl rfl;obtain⟨b1,b6,eA,m1,m2,m3⟩:=zn (ho.F.K k b7);obtain⟨i8,j1,eB,m4,m5,m6⟩:=zn (ho.F.I k b7);obtain⟨a5,b3,eD,m7,m8,m9⟩:=zn (ho.F.L k b7);have e0:Hid (w.ownsRow base 220 4 (b1,(x.F k).r,b6) (x.F k).r (zH (x.F k).K (x.F k).r)):=by show w.ownsRow _ _ _ _ _ _;rw[← eA];exact ho.F.K k b7
 have i7:Hid (w.ownsRow base 228 4 (i8,(x.F k).m,j1) (x.F k).m (zF (x.F k).I (x.F k).m)):=by show w.ownsRow _ _ _ _ _ _;rw[← eB];exact ho.F.I k b7
 have b9:Hid (w.ownsRow base 234 2 (a5,(x.F k).t,b3) (x.F k).t (zL (x.F k).L (x.F k).t)):=by show w.ownsRow _ _ _ _ _ _;rw[← eD];exact ho.F.L k b7
 have e7:Hid (w.cell? (gl,k*3)=some (b1,(x.F k).r,b6)):=by
  have h:=zs ho.F.row (k*3+0) oM rfl;rw[zO 3 _ k 0 dC] at h;rw[← eA];exact h
 have i6:Hid (w.cell? (gl,k*3+1)=some (i8,(x.F k).m,j1)):=by
  have h:=zs ho.F.row (k*3+1) oM rfl;rw[zO 3 _ k 1 dC] at h;rw[← eB];exact h
 have e8:Hid (w.cell? (gl,k*3+2)=some (a5,(x.F k).t,b3)):=by
  have h:=zs ho.F.row (k*3+2) oM rfl;rw[zO 3 _ k 2 dC] at h;rw[← eD];exact h
 have e9:Hid (_/\_/\_):=⟨m3,m6,m9⟩;obtain⟨s,e4⟩:=nM (x.G k);obtain⟨l,h4⟩:=nM (x.F k);rw[← h4] at e0 i7 b9 e7 i6 e8 e9 P;rw[← e4] at P;have d2:=hI e4;have y:=hI h4;have k2:=hI j3;obtain⟨l1,so,la,lc,ca,cc,rfl,f0,f1,f2,f3,f4,f5,f6,f7,g9,g5,j9,j8⟩:=e5.out k b7;rw[← e4] at f0 f1 f2 f3 f4 f5 f6 f7 g9 g5 j9 j8;have k4:Hid (_/\_):=⟨g9,g5⟩;have k1:Hid (∀ W,Below w w W->_/\_/\_/\_/\_/\_/\_/\_):=λW hb=>by
  have b4:=Ja w _ f0;exact⟨tR hb f0 b4,tR hb f1 b4,tR hb f2 b4,tR hb f3 b4,tR hb f4 b4,tR hb f5 b4,tR hb f6 b4,tR hb f7 b4⟩
 clear f0 f1 f2 f3 f4 f5 f6 f7 g9 g5 j9 j8 e4 h4 j3 eA eB eD m1 m2 m3 m4 m5 m6 m7 m8 m9 j5 hk k7;have i1:=n0 k;have i2:(k:Int)<(N:Int):=oM;have d6:Below w w (w.alloc (.cells #[leg,int i64 ρ,goes,who,p.v,p.f,p.j,p.w,p.h,p.x] 159)):=zd bZ _;have b0:=Jb w (.cells #[leg,int i64 ρ,goes,who,p.v,p.f,p.j,p.w,p.h,p.x] 159);go_enter func92,ntmps92;go_upto_region 1 with fail;generalize (w.alloc _)=W at d6 b0 ⊢;have z0:∀ G:zy W,G.val.cell? _=some (.slice _ N d5):=λG=>bC (za HQ.out (zb d6 G.o)) 0
 have z1:∀ G:zy W,G.val.cell? _=some (.int _ leg):=λG=>bC (za b0 G.o) 0
 refine ze kR kR ?_
 repeat(go_big_quiet_step ((rename_i G;first|(go_at_call 161;refine zr (v:=int i64 (k:Int)) ((BB _ N d5 _ leg _ hN (e5.j0 (zb d6 G.o))).mono ?_);rintro e w2 ⟨he,g4⟩;refine⟨?_,g4⟩;rw[HK.out] at he;rcases he with⟨_,rfl⟩|⟨h,_⟩;rfl;omega))))
 refine Jl ?_;rintro _ ⟨G,rfl⟩;clear z0 z1;have d8:=zb d6 G.o;have bW:=za b0 G.o;obtain⟨c0,c1,c2,c3,c4,c5,c6,c7⟩:=k1.out _ d8;have y0:=bC (za HQ.out d8) 0;have y1:∀ o,(G.val.alloc o).cell? _=some (.slice _ N e3):=λo=>bC (za HQ.out (zd d8 o)) 1
 have y4:=aC bW 4;have y5:=aC bW 5;have y6:=aC bW 6;have y7:=aC bW 7;have y8:=aC bW 8;have y9:=aC bW 9;go_upto_region 8 with fail;have f:Below w w ((G.val.alloc (.cells (s,la,lc,ca,cc) 140)).alloc (.cells #[p.v,p.f,p.j,p.w,p.h,p.x] 45)):=zd (zd d8 _) _;have O:=zg (zg bW (.cells (s,la,lc,ca,cc) 140)) (.cells #[p.v,p.f,p.j,p.w,p.h,p.x] 45);have b2:=zg (Jb G.val (.cells (s,la,lc,ca,cc) 140)) (.cells #[p.v,p.f,p.j,p.w,p.h,p.x] 45);have S:=EB G.val (.cells (s,la,lc,ca,cc) 140) (.cells #[p.v,p.f,p.j,p.w,p.h,p.x] 45);generalize hx0:(G.val.alloc _).alloc _=X at f O b2 S ⊢;generalize hsb:G.val.heap.size=sb at b2 S ⊢;clear c0 c1 c2 c3 c4 c5 c6 c7 y0 y1 y4 y5 y6 y7 y8 y9 bW d8 d6 b0 hx0 hsb G W;have w1:=bC O 1;have w2:=bC O 2;have w3:=bC O 3;have L0:=tR f e7.out d9;have L1:=tR f i6.out d9;have L2:=tR f e8.out d9;have bG:=za k2.out f
 rcases HC.out with⟨rfl,rfl,rfl,r,hr,hx,V⟩|⟨rfl,rfl,rfl,r,hr,hx,V⟩|⟨rfl,rfl,rfl,r,hr,hx,V⟩|⟨rfl,rfl,rfl⟩|⟨rfl,rfl,rfl,hp⟩
 all_goals clear HC
 ·as_aux_lemma =>
  have HR:Hid (r<l.r/\Zm l.K r=who/\∀ j,j<l.r->j≠r->Zm l.K j≠who):=by rw[y.out];exact⟨hr,hx,V⟩
  clear hr hx V;have k0:Hid (∀ Z,_->Calls _ 165 _ Z λe M=>(∃ av cv,e=.returned (.slice av _ cv)/\Hid (M.ownsRow X 220 4 (.slice av _ cv) _ _))/\Below X X M):=λZ hZ=>by
   have hd:=(QQ _ _ _).1 P.1;refine(My b1 _ b6 r _ who Z hd.2.1 HR.1 HR.2.1 HR.2.2 ((Cv e0.out).j0 (zb f hZ))).mono ?_;rintro e M ⟨⟨u,rfl,o1⟩,d7⟩;obtain⟨av,cv,rfl,_⟩:=zn o1;exact⟨⟨av,cv,rfl,zo o1 hZ.size⟩,zb hZ d7⟩
  go_upto_region 9 with fail;clear w1 w2 L1 L2;go_region_law (first
   |(go_simp;go_at_call 165;(with_reducible refine Jm (k0.out _ ?_) ?_);exact dB;rintro e M ⟨⟨av,cv,rfl,k3⟩,d7⟩;have q0:=(d7.cell (zD bG)).trans L0;have q1:=zc (za bG d7) (k*3);dsimp only))
  all_goals
   have HF:Hid _:=pg (v:=⟨leg,0,_,who,p⟩) HO.out HQ.out c9.out (zb f d7) (zo k3.out f.size) (by rw[y.out];exact .noStay r rfl rfl (by rw[← y.out];exact HR.1) (by rw[← y.out];exact HR.2.1))
   go_wp2;go_ret;exact HF.out
 ·as_aux_lemma =>
  obtain⟨j0,ji,i3,i4,i5⟩:=info_parts Tryz.infoRoom;have HR:Hid (r<l.m/\Zl l.I r=who/\∀ j,j<l.m->j≠r->Zl l.I j≠who):=by rw[y.out];exact⟨hr,hx,V⟩
  clear hr hx V;have Y:=P.2.1.2.1;go_wp2;go_loopw [9,11,106] (λv _ i wr=>∃ q,q<=l.m/\i=int i64 q/\wr.ownsRow X 228 4 v (Qx r q) (zF (ZG l.I r) (Qx r q))/\Below X X wr) (λ_ _ i _=>l.m - (intOf i).toNat)
  case atStart=>exact⟨0,Jq _,rfl,⟨rfl,.inl ⟨rfl,rfl⟩⟩,bZ⟩
  case round =>
   obtain⟨q,hq,rfl,n,d⟩:=hrel
   by_cases hlq:q<l.m
   ·obtain⟨b,off,rfl,h0,h1,h2,h3⟩:=(Aj i7.out).j0 f q hlq
    have hb:=Ja X _ h0;obtain⟨c0,c1,c2,c3⟩:=OP d h0 h1 h2 h3 hb;clear h0 h1 h2 h3;have y3:=aC (za O d) 3
    by_cases he:q=r
    ·have e1:((l.I q).e == who)=true:=by rw[he];simpa [Zl] using HR.2.1
     have e2:((l.I q).e != who)=false:=by rw[he];simpa [Zl] using HR.2.1
     have HC:Hid (Qx r (q+1)=Qx r q):=by
      have a1:Qx r _=q+1 - 1:=Je oM;have a2:Qx r q=q:=Jf oM
      show _=_
      omega
     clear he;go_wp2;go_roundw
     case rel=>exact⟨q+1,by omega,by go_num,by rw[HC.out];exact zm (zd bZ _) n,zd d _⟩
     case measure=>simp[intOf];omega
    ·have b8:=HR.2.2 q hlq he
     have e1:((l.I q).e == who)=false:=by simpa [Zl] using b8
     have e2:((l.I q).e != who)=true:=by simpa [Zl] using b8
     have HC:Hid (Qx r (q+1)=Qx r q+1/\ZG l.I r (Qx r q)=l.I q/\Qx r q<=60):=by
      by_cases c:q<=r
      ·have a1:Qx r _=q+1:=Jf oM
       have a2:Qx r q=q:=Jf c;have a3:ZG _ r q=l.I q:=Jf oM;rw[a1,a2,a3];exact⟨rfl,rfl,by omega⟩
      ·have a1:Qx r _=q+1 - 1:=Je oM
       have a2:Qx r q=_:=Je c;have a3:ZG _ r _=l.I (q - 1+1):=Je oM;rw[a1,a2,a3];exact⟨by omega,by rw[show q - 1+1=q by omega],by omega⟩
     clear he b8;have k8:=d.size;have g6:=HC.2.2;generalize hqq:Qx r q=qq at n g6;have d0:=hI hqq;clear hqq;have HN:Hid (∀ ad,(some (wr.heap.size+1,0):Option Addr)=some ad->∀ j u,[Value.int .i64 (l.I q).e,int i64 (l.I q).H,int i64 (l.I q).z,.bool (l.I q).h][j]?=some u->((wr.alloc (.cells #[(l.I q).e,(l.I q).H,(l.I q).z,(l.I q).h] 228)).alloc (.cells #[(l.I q).e,(l.I q).H,(l.I q).z,(l.I q).h] 228)).cell? (ad.add j)=some u):=by
      intro ad e
      cases e
      exact Jo (by simpa using Jb (wr.alloc _) _)
     go_wp2_with (first|(at_builtin;refine zu _ rfl _ _ 142 rfl _ 228 j0 _ 4 32 underlying142 ji i3 i4 i5 rfl dC _ qq _ (by rfl) ((n.alloc _).alloc _) _ 1 1 _ rfl (λh=>(by cases h)) rfl HN.out (by intro u hu;simp at hu;rcases hu with rfl|rfl|rfl|rfl <;> rfl) (by unfold maxLen;omega) oM (by simp;omega) ?_;intro v' k9 h6 g8))
     go_roundw
     case rel =>
      refine⟨q+1,by omega,by go_num,?_,(zd (zd d _) _).grown g8 (by simp;omega) (λj hj=>(n.lt j hj).1)⟩
      obtain⟨a1,a2,_⟩:=HC.out;rw[a1,d0.out,Aq];rw[d0.out] at a2;rw[a2];exact h6
     case measure=>simp[intOf];omega
   ·obtain rfl:q=l.m:=by omega
    have HC:Hid (Qx r _=l.m - 1):=Je (by have:=HR.1;omega)
    rw[HC.out] at n;obtain⟨av,cv,rfl,_⟩:=zn n;have q0:=(d.cell (zD bG)).trans L1;have q1:=zc (za bG d) (k*3+1);have HF:Hid _:=my (v:=⟨leg,1,_,who,p⟩) HO.out HQ.out c9.out (zb f d) (zo n f.size) (by rw[y.out];exact .noRoom r rfl rfl (by rw[← y.out];exact HR.1) (by rw[← y.out];exact HR.2.1))
    go_wp2;go_ret;exact HF.out
 ·as_aux_lemma =>
  obtain⟨j0,ji,i3,i4,i5⟩:=info_parts Tryz.infoSeat;have HR:Hid (r<l.t/\ZZ l.L r=who/\∀ j,j<l.t->j≠r->ZZ l.L j≠who):=by rw[y.out];exact⟨hr,hx,V⟩
  clear hr hx V;have Y:=P.2.2.2.1;go_wp2;go_loopw [12,14,132] (λv _ i wr=>∃ q,q<=l.t/\i=int i64 q/\wr.ownsRow X 234 2 v (Qx r q) (zL (ZG l.L r) (Qx r q))/\Below X X wr) (λ_ _ i _=>l.t - (intOf i).toNat)
  case atStart=>exact⟨0,Jq _,rfl,⟨rfl,.inl ⟨rfl,rfl⟩⟩,bZ⟩
  case round =>
   obtain⟨q,hq,rfl,n,d⟩:=hrel
   by_cases hlq:q<l.t
   ·obtain⟨b,off,rfl,h0,h1⟩:=(Al b9.out).j0 f q hlq
    have hb:=Ja X _ h0;have c0:=tR d h0 hb;have c1:=tR d h1 hb;clear h0 h1;have y3:=aC (za O d) 3
    by_cases he:q=r
    ·have e1:((l.L q).e == who)=true:=by rw[he];simpa [ZZ] using HR.2.1
     have e2:((l.L q).e != who)=false:=by rw[he];simpa [ZZ] using HR.2.1
     have HC:Hid (Qx r (q+1)=Qx r q):=by
      have a1:Qx r _=q+1 - 1:=Je oM;have a2:Qx r q=q:=Jf oM
      show _=_
      omega
     clear he;go_wp2;go_roundw
     case rel=>exact⟨q+1,by omega,by go_num,by rw[HC.out];exact zm (zd bZ _) n,zd d _⟩
     case measure=>simp[intOf];omega
    ·have b8:=HR.2.2 q hlq he
     have e1:((l.L q).e == who)=false:=by simpa [ZZ] using b8
     have e2:((l.L q).e != who)=true:=by simpa [ZZ] using b8
     have HC:Hid (Qx r (q+1)=Qx r q+1/\ZG l.L r (Qx r q)=l.L q/\Qx r q<=60):=by
      by_cases c:q<=r
      ·have a1:Qx r _=q+1:=Jf oM
       have a2:Qx r q=q:=Jf c;have a3:ZG _ r q=l.L q:=Jf oM;rw[a1,a2,a3];exact⟨rfl,rfl,by omega⟩
      ·have a1:Qx r _=q+1 - 1:=Je oM
       have a2:Qx r q=_:=Je c;have a3:ZG _ r _=l.L (q - 1+1):=Je oM;rw[a1,a2,a3];exact⟨by omega,by rw[show q - 1+1=q by omega],by omega⟩
     clear he b8;have k8:=d.size;have g6:=HC.2.2;generalize hqq:Qx r q=qq at n g6;have d0:=hI hqq;clear hqq;have HN:Hid (∀ ad,(some (wr.heap.size+1,0):Option Addr)=some ad->∀ j u,[Value.int .i64 (l.L q).e,int i64 (l.L q).z][j]?=some u->((wr.alloc (.cells #[(l.L q).e,(l.L q).z] 234)).alloc (.cells #[(l.L q).e,(l.L q).z] 234)).cell? (ad.add j)=some u):=by
      intro ad e
      cases e
      exact Jo (by simpa using Jb (wr.alloc _) _)
     go_wp2_with (first|(at_builtin;refine zu _ rfl _ _ 143 rfl _ 234 j0 _ 2 16 underlying143 ji i3 i4 i5 rfl dC _ qq _ (by rfl) ((n.alloc _).alloc _) _ 1 1 _ rfl (λh=>(by cases h)) rfl HN.out (by intro u hu;simp at hu;rcases hu with rfl|rfl <;> rfl) (by unfold maxLen;omega) oM (by simp;omega) ?_;intro v' k9 h6 g8))
     go_roundw
     case rel =>
      refine⟨q+1,by omega,by go_num,?_,(zd (zd d _) _).grown g8 (by simp;omega) (λj hj=>(n.lt j hj).1)⟩
      obtain⟨a1,a2,_⟩:=HC.out;rw[a1,d0.out,AO];rw[d0.out] at a2;rw[a2];exact h6
     case measure=>simp[intOf];omega
   ·obtain rfl:q=l.t:=by omega
    have HC:Hid (Qx r _=l.t - 1):=Je (by have:=HR.1;omega)
    rw[HC.out] at n;obtain⟨av,cv,rfl,_⟩:=zn n;have q0:=(d.cell (zD bG)).trans L2;have q1:=zc (za bG d) (k*3+2);have HF:Hid _:=ph (v:=⟨leg,2,_,who,p⟩) HO.out HQ.out c9.out (zb f d) (zo n f.size) (by rw[y.out];exact .noSeat r rfl rfl (by rw[← y.out];exact HR.1) (by rw[← y.out];exact HR.2.1))
    go_wp2;go_ret;exact HF.out
 ·as_aux_lemma =>
  obtain⟨i0,ii,a7,a8,a9⟩:=info_parts Tryz.infoStay;obtain⟨r,j6⟩:=Oc s.la l.r l.K p.f p.j;have f8:=hI j6;clear j6;have s5:∀ G:zy X,G.val.cell? _=some (.slice la _ lc):=λG=>bC (za b2 G.o) 5
  have s6:=gT L0 (zD bG);have p1:∀ G:zy X,G.val.cell? _=some (.int _ _):=λG=>bC (za S G.o) 1
  have p2:∀ G:zy X,G.val.cell? _=some (.int _ _):=λG=>bC (za S G.o) 2
  go_upto_region 29 with fail;refine ze kR kR ?_
  repeat(go_big_quiet_step ((rename_i G;first|(go_at_call 166;refine zr (v:=int i64 r) ((PK la b1 _ lc _ b6 _ _ _ _ _ rfl ((QQ _ _ _).1 P.1) (k4.1.j0 (zb f G.o)) ((Cv e0.out).j0 (zb f G.o))).mono ?_);rintro e w2 ⟨⟨r',rfl,o1⟩,g4⟩;exact⟨by rw[DF o1 f8.out],g4⟩))))
  refine Jl ?_;rintro _ ⟨G,rfl⟩;have H:=zb f G.o;have a6:=za O G.o;have a0:=za S G.o;have Q:=za bG G.o;clear w1 w2 w3 L0 L1 L2 s5 s6 p1 p2;generalize G.val=M at H a6 a0 Q ⊢;clear f O b2 S bG G X
  by_cases hr:r<0
  ·have e1:=Jd hr
   have HF:Hid _:=iv (v:=⟨leg,0,_,who,p⟩) HO.out HQ.out H (by
    refine .deck rfl rfl ?_;rw[← d2.out,← y.out]
    rcases f8.out with⟨j,h,_⟩|⟨h,h2⟩
    ·omega
    ·exact .inr ⟨rfl,h2⟩)
   go_wp2;go_ret;exact HF.out
  obtain⟨m,rfl⟩:∃ m:Nat,r=(m:Int):=⟨r.toNat,by omega⟩
  have e1:=Jc hr;clear hr;go_upto_region 32 with fail;have HN:=hI e9.1;have b5:Hid (∀ z,_->qx z b1 _ _):=λz h=>(Cv e0.out).j0 (zb H h)
  have Y:=((QQ _ _ _).1 P.1).2.1;have d4:=tR H e7.out d9;have KS:Hid (∀ z,Below M M z->(z.cell? _=some (.int _ who)/\z.cell? _=some (.int _ _)/\z.cell? _=some (.int _ _))/\_):=λz h=>⟨⟨bC (za a6 h) 3,bC (za a0 h) 1,bC (za a0 h) 2⟩,(h.cell (zD Q)).trans d4⟩
  refine qt 19 20 (λw'=>(w'.cell? _=_/\w'.cell? _=_/\w'.cell? _=_)/\w'.cell? _=_) rfl kR (KS.out _ (Jh bZ)) (λhS=>?_)
  simp only[List.replicate_succ,List.replicate_zero];refine Ax 0 ?_
  iterate 4 refine Ax 2 ?_
  iterate 8 refine Ax 7 ?_
  refine eq 1 15 (λK a=>?_) λK a=>?_
  focus
   go_simp;refine a.out _ _ (KS.out _ dB) (λhS=>?_)
   clear a K;refine eq 6 15 (λK a=>?_) λK a=>?_
   focus
    refine zZ rfl _ _ 141 rfl 220 i0 _ 4 32 underlying141 ii a7 a8 a9 rfl dC _ _ rfl (by first|exact Jr _|omega|(simp;done)|(simp;omega)) (by repeat(first|((with_reducible refine Qu _ _ _ ?_);(first|rfl|(simp;done)))|with_reducible refine zK ?_|with_reducible refine zg ?_ _)) b1 _ b6 _ rfl HN.out (Qg _ _) (AA (b5.out _ dB)) (Ai _ _) (by unfold maxLen;omega) oM ?_;intro p1 q1 u1 J U I;clear I;have F:Hid (Below M M u1):=(by show Below _ _ _;refine zb ?_ (zp J);exact dB);refine a.out _ _ (KS.out _ F.out) (λhS=>?_)
    clear a K;simp only[Act.put,sB,sZ,sS];refine Ay 15 λK a=>?_
    focus
     go_simp;refine a.out _ _ (KS.out _ dB) (λhS=>?_)
     clear a K
   rotate_left 1
   focus
    go_simp;refine a.out _ _ (KS.out _ dB) (λhS=>?_)
    clear a K;refine Ay 6 λK a=>?_
    focus
     refine zZ rfl _ _ 141 rfl 220 i0 _ 4 32 underlying141 ii a7 a8 a9 rfl dC _ _ rfl (by first|exact Jr _|omega|(simp;done)|(simp;omega)) (by repeat(first|((with_reducible refine Qu _ _ _ ?_);(first|rfl|(simp;done)))|with_reducible refine zK ?_|with_reducible refine zg ?_ _)) b1 _ b6 _ rfl HN.out (Qg _ _) (AA (b5.out _ dB)) (Ai _ _) (by unfold maxLen;omega) oM ?_;intro p1 q1 u1 J U I;clear I;have F:Hid (Below M M u1):=(by show Below _ _ _;refine zb ?_ (zp J);exact dB);refine a.out _ _ (KS.out _ F.out) (λhS=>?_)
     clear a K;simp only[Act.put,sB,sZ,sS]
  rotate_left 2
  focus
   go_simp;refine a.out _ _ (KS.out _ dB) (λhS=>?_)
   clear a K;refine Ay 1 λK a=>?_
   focus
    go_simp;refine a.out _ _ (KS.out _ dB) (λhS=>?_)
    clear a K;refine Ay 6 λK a=>?_
    focus
     refine zZ rfl _ _ 141 rfl 220 i0 _ 4 32 underlying141 ii a7 a8 a9 rfl dC M.heap.size _ rfl (by first|exact Jr _|omega|(simp;done)|(simp;omega)) (by repeat(first|((with_reducible refine Qu _ _ _ ?_);(first|rfl|(simp;done)))|with_reducible refine zK ?_|with_reducible refine zg ?_ _)) b1 _ b6 _ rfl HN.out (Qg _ _) (AA (b5.out _ dB)) (Ai _ _) (by unfold maxLen;omega) oM ?_;intro p1 q1 u1 J U I;clear I;have F:Hid (Below M M u1):=(by show Below _ _ _;refine zb ?_ (zp J);exact dB);refine a.out _ _ (KS.out _ F.out) (λhS=>?_)
     clear a K;simp only[Act.put,sB,sZ,sS]
  all_goals
   refine Ay 16 λK a=>?_
   refine step_append_lies _ rfl (.tmp 173) _ 141 rfl _ 220 i0 _ 4 32 underlying141 ii a7 a8 a9 rfl dC _ _ _ rfl (by first|exact U|exact U.alloc _|exact zm (zd bZ _) U) _ 1 1 [.int _ who,.int _ _,.int _ _,.int _ _] rfl rfl (by refine Jo (cs:=#[_,_,_,_]) (t:=220) (fr:=(0,0)) ?_;exact(by repeat(first|((with_reducible refine Qu _ _ _ ?_);(first|rfl|(simp;done)))|with_reducible refine zK ?_|with_reducible refine zg ?_ _|with_reducible refine za ?_ (zp J)))) (by intro u hu;simp at hu;rcases hu with rfl|rfl|rfl|rfl <;> rfl) dC (by unfold maxLen;omega) oM (by first|exact F.size|(have:=F.size;simp;omega)) _ rfl ?_;intro g2 i9 u2 h5 g7 j2 j4;refine(λ(a4:Hid (Below M M u2))=>?_) (Below.grown ?_ g7 ?_ (λj hj=>(U.lt j hj).1));rotate_left;(focus(repeat(first|exact bZ|refine Jh ?_|refine zd ?_ _|refine zb ?_ (zp J))));(focus(first|exact F.size|(have:=F.size;simp;omega)));have q0:=(a4.cell (zD Q)).trans d4;have q1:=zc (za Q a4.out) (k*3);refine a.out _ _ (KS.out _ a4.out) (λhS=>?_)
   clear a K;simp only[Act.put,sB,sZ,sS]
   iterate 2 refine Ax 17 ?_
   refine kc λK a=>?_
   go_simp;refine a.out _ _ ?_;clear a K;refine qh kR ?_ _;have HF:Hid _:=pg (T:=QB _ l.r (λ_=>⟨who,_,_,_⟩)) (v:=⟨leg,0,_,who,p⟩) HO.out HQ.out c9.out (zb H a4.out) (zo (by rw[Gq,AN,show zH _ 0=[] from rfl,List.nil_append];exact h5) H.size) (by rw[y.out];exact .addStay m rfl rfl (by rw[← d2.out,← y.out];exact f8.out))
   go_wp2;go_ret;exact HF.out
 ·as_aux_lemma =>
  obtain⟨i0,ii,a7,a8,a9⟩:=info_parts Tryz.infoSeat;unfold In at hp;have Y:=P.2.2.2.1;have j7:=Fe _ _ (λj hj=>(P.2.2.2.2.1 j hj).2.2)
  obtain⟨q,h7⟩:=nM (Z0 l.L l.t);rw[← h7] at j7;have d3:=hI h7;clear h7;have l0:=wR (q+p.v);have s6:=gT L2 (zD bG);have s7:∀ G:zy X,G.val.cell? _=some (.int _ _):=λG=>bC (za b2 G.o) 7
  have p0:∀ G:zy X,G.val.cell? _=some (.int _ _):=λG=>bC (za S G.o) 0
  go_upto_region 5 with fail
  by_cases h60:l.t=60
  ·have k5:(l.t == 60)=true:=by simpa using h60
   have k6:((l.t:Int) == 60)=true:=by simp;omega
   have e6:=hI h60;clear h60;refine ze kR kR ?_
   repeat(go_big_quiet_step ((rename_i G;first|(go_at_call 155;refine gF (v:=int i64 q) (DK a5 l.t b3 l.L _ Y (λj hj=>(P.2.2.2.2.1 j hj).2.2) ((Al b9.out).j0 (zb f G.o))) (by rw[d3.out])))))
   refine Jl ?_;rintro _ ⟨G,rfl⟩;have H:=zb f G.o;have a6:=za O G.o;have a0:=za S G.o;have Q:=za bG G.o;clear w1 w2 w3 L0 L1 L2 s6 s7 p0;generalize G.val=M at H a6 a0 Q ⊢;clear f O b2 S bG G X;have HF:Hid _:=iv (v:=⟨leg,2,_,who,p⟩) HO.out HQ.out H (by
    refine .seats rfl rfl ?_;rw[← d2.out,← y.out];exact .inl e6.out)
   go_wp2;go_ret;exact HF.out
  have k5:(l.t == 60)=false:=by simpa using h60
  have k6:((l.t:Int) == 60)=false:=by simp;omega
  have e6:Hid (l.t≠60):=h60;clear h60
  by_cases hm:s.N<q+p.v
  ·have d1:=Jd hm
   have HM:=hI hm;clear hm;refine ze kR kR ?_
   repeat(go_big_quiet_step ((rename_i G;first|(go_at_call 155;refine gF (v:=.int _ q) (DK a5 _ b3 _ _ Y (λj hj=>(P.2.2.2.2.1 j hj).2.2) ((Al b9.out).j0 (zb f G.o))) (by rw[d3.out])))))
   refine Jl ?_;rintro _ ⟨G,rfl⟩;have H:=zb f G.o;have a6:=za O G.o;have a0:=za S G.o;have Q:=za bG G.o;clear w1 w2 w3 L0 L1 L2 s6 s7 p0;generalize G.val=M at H a6 a0 Q ⊢;clear f O b2 S bG G X;have HF:Hid _:=iv (v:=⟨leg,2,_,who,p⟩) HO.out HQ.out H (by
    refine .seats rfl rfl ?_;rw[← d2.out,← y.out];exact .inr (by rw[← d3.out];exact HM.out))
   go_wp2;go_ret;exact HF.out
  have d1:=Jc hm;have HM:=hI hm;clear hm;refine ze kR kR ?_
  repeat(go_big_quiet_step ((rename_i G;first|(go_at_call 155;refine gF (v:=.int _ q) (DK a5 _ b3 _ _ Y (λj hj=>(P.2.2.2.2.1 j hj).2.2) ((Al b9.out).j0 (zb f G.o))) (by rw[d3.out])))))
  refine Jl ?_;rintro _ ⟨G,rfl⟩;have H:=zb f G.o;have a6:=za O G.o;have a0:=za S G.o;have Q:=za bG G.o;clear w1 w2 w3 L0 L1 L2 s6 s7 p0;generalize G.val=M at H a6 a0 Q ⊢;clear f O b2 S bG G X;go_upto_region 7 with fail;have HN:=hI e9.2.2;have b5:Hid (∀ z,_->qC z a5 _ _):=λz h=>(Al b9.out).j0 (zb H h)
  have Y:=P.2.2.2.1;have d4:=tR H e8.out d9;have KS:Hid (∀ z,Below M M z->(z.cell? _=some (.int _ who)/\z.cell? _=some (.int _ _))/\_):=λz h=>⟨⟨bC (za a6 h) 3,bC (za a0 h) 0⟩,(h.cell (zD Q)).trans d4⟩
  refine qt 16 17 (λw'=>(w'.cell? _=_/\w'.cell? _=_)/\w'.cell? _=_) rfl kR (KS.out _ (Jh bZ)) (λhS=>?_)
  simp only[List.replicate_succ,List.replicate_zero];refine Ax 0 ?_
  iterate 4 refine Ax 2 ?_
  iterate 5 refine Ax 7 ?_
  refine eq 1 12 (λK a=>?_) λK a=>?_
  focus
   go_simp;refine a.out _ _ (KS.out _ dB) (λhS=>?_)
   clear a K;refine eq 6 12 (λK a=>?_) λK a=>?_
   focus
    refine zZ rfl _ _ 143 rfl 234 i0 _ 2 16 underlying143 ii a7 a8 a9 rfl dC _ _ rfl (by first|exact Jr _|omega|(simp;done)|(simp;omega)) (by repeat(first|((with_reducible refine Qu _ _ _ ?_);(first|rfl|(simp;done)))|with_reducible refine zK ?_|with_reducible refine zg ?_ _)) a5 _ b3 _ rfl HN.out (Zv _ _) (Bj (b5.out _ dB)) (AG _ _) (by unfold maxLen;omega) oM ?_;intro p1 q1 u1 J U I;clear I;have F:Hid (Below M M u1):=(by show Below _ _ _;refine zb ?_ (zp J);exact dB);refine a.out _ _ (KS.out _ F.out) (λhS=>?_)
    clear a K;simp only[Act.put,sB,sZ,sS];refine Ay 12 λK a=>?_
    focus
     go_simp;refine a.out _ _ (KS.out _ dB) (λhS=>?_)
     clear a K
   rotate_left 1
   focus
    go_simp;refine a.out _ _ (KS.out _ dB) (λhS=>?_)
    clear a K;refine Ay 6 λK a=>?_
    focus
     refine zZ rfl _ _ 143 rfl 234 i0 _ 2 16 underlying143 ii a7 a8 a9 rfl dC _ _ rfl (by first|exact Jr _|omega|(simp;done)|(simp;omega)) (by repeat(first|((with_reducible refine Qu _ _ _ ?_);(first|rfl|(simp;done)))|with_reducible refine zK ?_|with_reducible refine zg ?_ _)) a5 _ b3 _ rfl HN.out (Zv _ _) (Bj (b5.out _ dB)) (AG _ _) (by unfold maxLen;omega) oM ?_;intro p1 q1 u1 J U I;clear I;have F:Hid (Below M M u1):=(by show Below _ _ _;refine zb ?_ (zp J);exact dB);refine a.out _ _ (KS.out _ F.out) (λhS=>?_)
     clear a K;simp only[Act.put,sB,sZ,sS]
  rotate_left 2
  focus
   go_simp;refine a.out _ _ (KS.out _ dB) (λhS=>?_)
   clear a K;refine Ay 1 λK a=>?_
   focus
    go_simp;refine a.out _ _ (KS.out _ dB) (λhS=>?_)
    clear a K;refine Ay 6 λK a=>?_
    focus
     refine zZ rfl _ _ 143 rfl 234 i0 _ 2 16 underlying143 ii a7 a8 a9 rfl dC M.heap.size _ rfl (by first|exact Jr _|omega|(simp;done)|(simp;omega)) (by repeat(first|((with_reducible refine Qu _ _ _ ?_);(first|rfl|(simp;done)))|with_reducible refine zK ?_|with_reducible refine zg ?_ _)) a5 _ b3 _ rfl HN.out (Zv _ _) (Bj (b5.out _ dB)) (AG _ _) (by unfold maxLen;omega) oM ?_;intro p1 q1 u1 J U I;clear I;have F:Hid (Below M M u1):=(by show Below _ _ _;refine zb ?_ (zp J);exact dB);refine a.out _ _ (KS.out _ F.out) (λhS=>?_)
     clear a K;simp only[Act.put,sB,sZ,sS]
  all_goals
   refine Ay 13 λK a=>?_
   refine step_append_lies _ rfl (.tmp 65) _ 143 rfl _ 234 i0 _ 2 16 underlying143 ii a7 a8 a9 rfl dC _ _ _ rfl (by first|exact U|exact U.alloc _|exact zm (zd bZ _) U) _ 1 1 [.int _ who,.int _ _] rfl rfl (by refine Jo (cs:=#[_,_]) (t:=234) (fr:=(0,0)) ?_;exact(by repeat(first|((with_reducible refine Qu _ _ _ ?_);(first|rfl|(simp;done)))|with_reducible refine zK ?_|with_reducible refine zg ?_ _|with_reducible refine za ?_ (zp J)))) (by intro u hu;simp at hu;rcases hu with rfl|rfl <;> rfl) dC (by unfold maxLen;omega) oM (by first|exact F.size|(have:=F.size;simp;omega)) _ rfl ?_;intro g2 i9 u2 h5 g7 j2 j4;refine(λ(a4:Hid (Below M M u2))=>?_) (Below.grown ?_ g7 ?_ (λj hj=>(U.lt j hj).1));rotate_left;(focus(repeat(first|exact bZ|refine Jh ?_|refine zd ?_ _|refine zb ?_ (zp J))));(focus(first|exact F.size|(have:=F.size;simp;omega)));have q0:=(a4.cell (zD Q)).trans d4;have q1:=zc (za Q a4.out) (k*3+2);refine a.out _ _ (KS.out _ a4.out) (λhS=>?_)
   clear a K;simp only[Act.put,sB,sZ,sS]
   iterate 2 refine Ax 14 ?_
   refine kc λK a=>?_
   go_simp;refine a.out _ _ ?_;clear a K;refine qh kR ?_ _;have HF:Hid _:=ph (T:=Ak _ l.t (λ_=>⟨who,_⟩)) (v:=⟨leg,2,_,who,p⟩) HO.out HQ.out c9.out (zb H a4.out) (zo (by rw[NB,AO,show zL _ 0=[] from rfl,List.nil_append];exact h5) H.size) (by rw[y.out];refine .addSeat rfl rfl (by rw[← y.out];exact e6.out) ?_;rw[← d2.out,← y.out,← d3.out];have:=HM.out;show q+p.v<=s.N;omega)
   go_wp2;go_ret;exact HF.out
end Go.Proofs.YtmdnjgihooflfaaGreatDoor
